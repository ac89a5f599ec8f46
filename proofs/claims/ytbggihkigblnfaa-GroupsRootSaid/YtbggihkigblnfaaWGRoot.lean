/-
 GroupsRoot: walked.
-/
import Derived.Deep.Cut
import Derived.Test.YtbggihkigblnfaaWGClosed
import Derived.Test.YtbggihkigblnfaaWTree
namespace Go.Proofs.Ytbggihkigblnfaa
set_option maxRecDepth 100000
open Go.RowKit
set_option linter.unusedSimpArgs false
set_option linter.unusedVariables false
attribute [local go_sem ↓] Go.wp_at_zero Go.wp_at_succ

set_option maxRecDepth 100000 in
set_option maxHeartbeats 8000000 in
theorem root_0 (P Q G H X Y N : Nat)
  (hQ : Q < 2 ^ 256)
  (hk : cmpN Q 1 ≤ 0)
  (w : World) : Calls Try.prog 8 #[grp P Q G H, arr2 X Y, num N] w fun e w' => e = .returned (.bool true) ∧ Below w.heap.size w w' := by
 refine sx_enter (args := [grp P Q G H, arr2 X Y, num N]) Try.func8 rfl Try.ntmps8 (by rfl) fun a F HM => ?_
 repeat (first | refine ex_then ?_ | refine ex_block ?_ | refine wp_seq ?_ | refine wp_block ?_ | refine wp_skip ?_)
 refine wp_region_lit ?_
 refine lx_new F HM (wanted_none rfl _) rfl (by rfl) (o_boxG (F.ev rfl)) fun a w gr F HM => ?_
 refine lx_new F HM (wanted_none rfl _) rfl (by rfl) (o_boxA (F.ev rfl)) fun a w ga F HM => ?_
 refine lx_new F HM (wanted_none rfl _) rfl (by rfl) (o_boxN (F.ev rfl)) fun a w gb F HM => ?_
 refine lx_value (v := .bool false) F (wanted_none rfl _) rfl (by rfl) (o_assign rfl) fun a F => ?_
 refine lx_nil ?_
 repeat (first | refine ex_then ?_ | refine ex_block ?_ | refine wp_seq ?_ | refine wp_block ?_ | refine wp_skip ?_)
 try simp only [List.append_eq, List.cons_append, List.nil_append]
 refine sx_drawn [⟨0, 18, [], .val (.pointer (some ⟨gr, 4, none⟩)), true⟩,
   ⟨1, 19, [0], .val (num Q), true⟩,
   ⟨2, 20, [1], .val (num 1), false⟩,
   ⟨3, 21, [1, 2], .val (.int .i64 (cmpN Q 1)), false⟩,
   ⟨4, 22, [3], .val (.bool true), true⟩,
   ⟨5, 23, [4], .val (.bool true), true⟩,
   ⟨6, 24, [5], .val undef, true⟩,
   ⟨7, 25, [5, 6], .val undef, true⟩,
   ⟨8, 26, [5, 7], .val undef, true⟩,
   ⟨9, 27, [5, 6, 8], .val undef, true⟩,
   ⟨10, 28, [5, 9], .val undef, true⟩,
   ⟨11, 29, [5, 10], .val (.bool true), true⟩,
   ⟨12, 30, [11], .val (.bool true), true⟩,
   ⟨13, 31, [12], .val undef, true⟩,
   ⟨14, 32, [12, 13], .val undef, true⟩,
   ⟨15, 33, [12, 14], .val undef, true⟩,
   ⟨16, 34, [12, 13, 15], .val undef, true⟩,
   ⟨17, 35, [12, 16], .val undef, true⟩,
   ⟨18, 36, [12, 17], .val (.bool true), true⟩] 0 F HM (by kernel_rfl) (by rfl) (by rfl) ?_ ?_ ?_ ?_ ?_ ?_ ?_
 ·kernel_rfl
 ·exact of_decide_eq_true (by kernel_rfl)
 ·(repeat refine all_cons ⟨_, by rfl, by rfl⟩ ?_); exact all_nil
 ·kernel_rfl
 ·(repeat (refine all_cons ?_ ?_; rotate_left)); exact all_nil
  ·exact coreS _ _ _ _ _ _ _ (by rfl) (by rfl) (wants_none) (fun ρ w kn hs => o_fieldG1 (kn _ _ (F.old (by rfl) rfl)))
  ·exact coreS _ _ _ _ _ _ _ (by rfl) (by rfl) (wants_none) (fun ρ w kn hs => o_loadG1 (kn _ _ (kc 0 18)) (hs.get 2 rfl))
  ·exact core_pureAs _ (by rfl)
  ·exact core_pureAs _ (by rfl)
  ·exact coreS _ _ _ _ _ _ _ (by rfl) (by rfl) (wants_none) (fun ρ w kn hs => o_bin (u := .int .i64 (cmpN Q 1)) (v := .int .i64 0) (fun ρ hx hy => by simp only [execOp, hx, hy]; simp [go_sem]; exact hk) (kn _ _ (kc 3 21)) (kn _ _ (known_const _)))
  ·exact coreS _ _ _ _ _ _ _ (by rfl) (by rfl) (wants_none) (fun ρ w kn hs => o_move (kn _ _ (kc 4 22)))
  ·exact coreG_skip _ _ _ _ _ _ (by rfl) (by rfl) (wc 5 23 5 (kc 5 23))
  ·exact coreG_skip _ _ _ _ _ _ (by rfl) (by rfl) (wc 5 23 5 (kc 5 23))
  ·exact coreG_skip _ _ _ _ _ _ (by rfl) (by rfl) (wc 5 23 5 (kc 5 23))
  ·exact coreG_skip _ _ _ _ _ _ (by rfl) (by rfl) (wc 5 23 5 (kc 5 23))
  ·exact coreG_skip _ _ _ _ _ _ (by rfl) (by rfl) (wc 5 23 5 (kc 5 23))
  ·exact coreS _ _ _ _ _ _ _ (by rfl) (by rfl) (wants_none) (fun ρ w kn hs => o_pick (b := true) (r := .bool true) (kn _ _ (kc 5 23)) (kn _ _ (known_const _)) (kn _ _ (kc 10 28)) rfl)
  ·exact coreS _ _ _ _ _ _ _ (by rfl) (by rfl) (wants_none) (fun ρ w kn hs => o_move (kn _ _ (kc 11 29)))
  ·exact coreG_skip _ _ _ _ _ _ (by rfl) (by rfl) (wc 12 30 12 (kc 12 30))
  ·exact coreG_skip _ _ _ _ _ _ (by rfl) (by rfl) (wc 12 30 12 (kc 12 30))
  ·exact coreG_skip _ _ _ _ _ _ (by rfl) (by rfl) (wc 12 30 12 (kc 12 30))
  ·exact coreG_skip _ _ _ _ _ _ (by rfl) (by rfl) (wc 12 30 12 (kc 12 30))
  ·exact coreG_skip _ _ _ _ _ _ (by rfl) (by rfl) (wc 12 30 12 (kc 12 30))
  ·exact coreS _ _ _ _ _ _ _ (by rfl) (by rfl) (wants_none) (fun ρ w kn hs => o_pick (b := true) (r := .bool true) (kn _ _ (kc 12 30)) (kn _ _ (known_const _)) (kn _ _ (kc 17 35)) rfl)
 ·(repeat (refine all_cons ?_ ?_; rotate_left)); exact all_nil
  ·exact sA
  ·exact sA
  ·exact fun _ => coreG_call _ 22 _ _ [.const (.int .u64 1)] _ _ _ _ _ _ _ (by rfl) Try.func22 (by kernel_rfl) (by rfl) (by rfl) (wants_none) (.cons (known_const _) .nil) ((fun w => of8_any 1 (by decide) w))
  ·exact fun _ => coreG_call _ 29 _ _ [.tmp 19, .tmp 20] _ _ _ _ _ _ _ (by rfl) Try.func29 (by kernel_rfl) (by rfl) (by rfl) (wants_none) (.cons (kc 1 19) (.cons (kc 2 20) .nil)) ((fun w => cmp_any Q 1 hQ (by decide) w))
  ·exact sA
  ·exact sA
  ·exact sA
  ·exact sA
  ·exact sA
  ·exact sA
  ·exact sA
  ·exact sA
  ·exact sA
  ·exact sA
  ·exact sA
  ·exact sA
  ·exact sA
  ·exact sA
  ·exact sA
 intro gs rs a w hgs hrs F HM
 obtain rfl := nl0 rs hrs
 clear hrs
 obtain rfl := nl0 gs hgs
 clear hgs
 refine sx_done (by kernel_rfl) ?_ _
 repeat (first | refine ex_then ?_ | refine ex_block ?_ | refine wp_seq ?_ | refine wp_block ?_ | refine wp_skip ?_)
 refine wp_cond_true (F.ev rfl) ?_
 repeat (first | refine ex_then ?_ | refine ex_block ?_ | refine wp_seq ?_ | refine wp_block ?_ | refine wp_skip ?_)
 refine wp_region_lit ?_
 refine lx_call F (wanted_none rfl _) rfl (by rfl) (run_callF Try.func23 (by kernel_rfl) (by rfl) .nil _) (alive8_any _) fun a w z F => ?_
 replace HM := HM.on z
 clear z
 refine lx_value (v := .bool true) F (wanted_none rfl _) rfl (by rfl) (o_assign (F.ev rfl)) fun a F => ?_
 refine lx_nil ?_
 repeat (first | refine ex_then ?_ | refine ex_block ?_ | refine wp_seq ?_ | refine wp_block ?_ | refine wp_skip ?_)
 refine wp_ret ?_
 repeat (first | refine ex_thenR ?_ | refine ex_blockR ?_)
 exact sx_ret F HM (res_tmp F rfl (s := 6) rfl)

set_option maxRecDepth 100000 in
set_option maxHeartbeats 8000000 in
theorem root_1 (P Q G H X Y N : Nat)
  (hQ : Q < 2 ^ 256)
  (hk : 0 < cmpN Q 1)
  (i1 : ∀ w, Calls Try.prog 20 #[grp P Q G H, num X] w fun e w' => e = .returned (.bool false) ∧ Below w.heap.size w w')
  (w : World) : Calls Try.prog 8 #[grp P Q G H, arr2 X Y, num N] w fun e w' => e = .returned (.bool true) ∧ Below w.heap.size w w' := by
 refine sx_enter (args := [grp P Q G H, arr2 X Y, num N]) Try.func8 rfl Try.ntmps8 (by rfl) fun a F HM => ?_
 repeat (first | refine ex_then ?_ | refine ex_block ?_ | refine wp_seq ?_ | refine wp_block ?_ | refine wp_skip ?_)
 refine wp_region_lit ?_
 refine lx_new F HM (wanted_none rfl _) rfl (by rfl) (o_boxG (F.ev rfl)) fun a w gr F HM => ?_
 refine lx_new F HM (wanted_none rfl _) rfl (by rfl) (o_boxA (F.ev rfl)) fun a w ga F HM => ?_
 refine lx_new F HM (wanted_none rfl _) rfl (by rfl) (o_boxN (F.ev rfl)) fun a w gb F HM => ?_
 refine lx_value (v := .bool false) F (wanted_none rfl _) rfl (by rfl) (o_assign rfl) fun a F => ?_
 refine lx_nil ?_
 repeat (first | refine ex_then ?_ | refine ex_block ?_ | refine wp_seq ?_ | refine wp_block ?_ | refine wp_skip ?_)
 try simp only [List.append_eq, List.cons_append, List.nil_append]
 refine sx_drawn [⟨0, 18, [], .val (.pointer (some ⟨gr, 4, none⟩)), true⟩,
   ⟨1, 19, [0], .val (num Q), true⟩,
   ⟨2, 20, [1], .val (num 1), false⟩,
   ⟨3, 21, [1, 2], .val (.int .i64 (cmpN Q 1)), false⟩,
   ⟨4, 22, [3], .val (.bool false), true⟩,
   ⟨5, 23, [4], .val (.bool false), true⟩,
   ⟨6, 24, [5], .val (grp P Q G H), true⟩,
   ⟨7, 25, [5, 6], .val (.pointer (some ⟨ga, 0, none⟩)), true⟩,
   ⟨8, 26, [5, 7], .val (num X), true⟩,
   ⟨9, 27, [5, 6, 8], .val (.bool false), false⟩,
   ⟨10, 28, [5, 9], .val (.bool true), true⟩,
   ⟨11, 29, [5, 10], .val (.bool true), true⟩,
   ⟨12, 30, [11], .val (.bool true), true⟩,
   ⟨13, 31, [12], .val undef, true⟩,
   ⟨14, 32, [12, 13], .val undef, true⟩,
   ⟨15, 33, [12, 14], .val undef, true⟩,
   ⟨16, 34, [12, 13, 15], .val undef, true⟩,
   ⟨17, 35, [12, 16], .val undef, true⟩,
   ⟨18, 36, [12, 17], .val (.bool true), true⟩] 0 F HM (by kernel_rfl) (by rfl) (by rfl) ?_ ?_ ?_ ?_ ?_ ?_ ?_
 ·kernel_rfl
 ·exact of_decide_eq_true (by kernel_rfl)
 ·(repeat refine all_cons ⟨_, by rfl, by rfl⟩ ?_); exact all_nil
 ·kernel_rfl
 ·(repeat (refine all_cons ?_ ?_; rotate_left)); exact all_nil
  ·exact coreS _ _ _ _ _ _ _ (by rfl) (by rfl) (wants_none) (fun ρ w kn hs => o_fieldG1 (kn _ _ (F.old (by rfl) rfl)))
  ·exact coreS _ _ _ _ _ _ _ (by rfl) (by rfl) (wants_none) (fun ρ w kn hs => o_loadG1 (kn _ _ (kc 0 18)) (hs.get 2 rfl))
  ·exact core_pureAs _ (by rfl)
  ·exact core_pureAs _ (by rfl)
  ·exact coreS _ _ _ _ _ _ _ (by rfl) (by rfl) (wants_none) (fun ρ w kn hs => o_bin (u := .int .i64 (cmpN Q 1)) (v := .int .i64 0) (fun ρ hx hy => by simp only [execOp, hx, hy]; simp [go_sem]; exact hk) (kn _ _ (kc 3 21)) (kn _ _ (known_const _)))
  ·exact coreS _ _ _ _ _ _ _ (by rfl) (by rfl) (wants_none) (fun ρ w kn hs => o_move (kn _ _ (kc 4 22)))
  ·exact coreS _ _ _ _ _ _ _ (by rfl) (by rfl) (wc 5 23 5 (kc 5 23)) (fun ρ w kn hs => o_loadG (kn _ _ (F.old (by rfl) rfl)) (hs.get 2 rfl))
  ·exact coreS _ _ _ _ _ _ _ (by rfl) (by rfl) (wc 5 23 5 (kc 5 23)) (fun ρ w kn hs => o_idxA0 (kn _ _ (F.old (by rfl) rfl)) (kn _ _ (known_const _)))
  ·exact coreS _ _ _ _ _ _ _ (by rfl) (by rfl) (wc 5 23 5 (kc 5 23)) (fun ρ w kn hs => o_loadA0 (kn _ _ (kc 7 25)) (hs.get 1 rfl))
  ·exact core_pureAs _ (by rfl)
  ·exact coreS _ _ _ _ _ _ _ (by rfl) (by rfl) (wc 5 23 5 (kc 5 23)) (fun ρ w kn hs => o_not (b := false) (r := true) (kn _ _ (kc 9 27)) rfl)
  ·exact coreS _ _ _ _ _ _ _ (by rfl) (by rfl) (wants_none) (fun ρ w kn hs => o_pick (b := false) (r := .bool true) (kn _ _ (kc 5 23)) (kn _ _ (known_const _)) (kn _ _ (kc 10 28)) rfl)
  ·exact coreS _ _ _ _ _ _ _ (by rfl) (by rfl) (wants_none) (fun ρ w kn hs => o_move (kn _ _ (kc 11 29)))
  ·exact coreG_skip _ _ _ _ _ _ (by rfl) (by rfl) (wc 12 30 12 (kc 12 30))
  ·exact coreG_skip _ _ _ _ _ _ (by rfl) (by rfl) (wc 12 30 12 (kc 12 30))
  ·exact coreG_skip _ _ _ _ _ _ (by rfl) (by rfl) (wc 12 30 12 (kc 12 30))
  ·exact coreG_skip _ _ _ _ _ _ (by rfl) (by rfl) (wc 12 30 12 (kc 12 30))
  ·exact coreG_skip _ _ _ _ _ _ (by rfl) (by rfl) (wc 12 30 12 (kc 12 30))
  ·exact coreS _ _ _ _ _ _ _ (by rfl) (by rfl) (wants_none) (fun ρ w kn hs => o_pick (b := true) (r := .bool true) (kn _ _ (kc 12 30)) (kn _ _ (known_const _)) (kn _ _ (kc 17 35)) rfl)
 ·(repeat (refine all_cons ?_ ?_; rotate_left)); exact all_nil
  ·exact sA
  ·exact sA
  ·exact fun _ => coreG_call _ 22 _ _ [.const (.int .u64 1)] _ _ _ _ _ _ _ (by rfl) Try.func22 (by kernel_rfl) (by rfl) (by rfl) (wants_none) (.cons (known_const _) .nil) ((fun w => of8_any 1 (by decide) w))
  ·exact fun _ => coreG_call _ 29 _ _ [.tmp 19, .tmp 20] _ _ _ _ _ _ _ (by rfl) Try.func29 (by kernel_rfl) (by rfl) (by rfl) (wants_none) (.cons (kc 1 19) (.cons (kc 2 20) .nil)) ((fun w => cmp_any Q 1 hQ (by decide) w))
  ·exact sA
  ·exact sA
  ·exact sA
  ·exact sA
  ·exact sA
  ·exact fun _ => coreG_call _ 20 _ _ [.tmp 24, .tmp 26] _ _ _ _ _ _ _ (by rfl) Try.func20 (by kernel_rfl) (by rfl) (by rfl) (wc 5 23 5 (kc 5 23)) (.cons (kc 6 24) (.cons (kc 8 26) .nil)) (i1)
  ·exact sA
  ·exact sA
  ·exact sA
  ·exact sA
  ·exact sA
  ·exact sA
  ·exact sA
  ·exact sA
  ·exact sA
 intro gs rs a w hgs hrs F HM
 obtain rfl := nl0 rs hrs
 clear hrs
 obtain rfl := nl0 gs hgs
 clear hgs
 refine sx_done (by kernel_rfl) ?_ _
 repeat (first | refine ex_then ?_ | refine ex_block ?_ | refine wp_seq ?_ | refine wp_block ?_ | refine wp_skip ?_)
 refine wp_cond_true (F.ev rfl) ?_
 repeat (first | refine ex_then ?_ | refine ex_block ?_ | refine wp_seq ?_ | refine wp_block ?_ | refine wp_skip ?_)
 refine wp_region_lit ?_
 refine lx_call F (wanted_none rfl _) rfl (by rfl) (run_callF Try.func23 (by kernel_rfl) (by rfl) .nil _) (alive8_any _) fun a w z F => ?_
 replace HM := HM.on z
 clear z
 refine lx_value (v := .bool true) F (wanted_none rfl _) rfl (by rfl) (o_assign (F.ev rfl)) fun a F => ?_
 refine lx_nil ?_
 repeat (first | refine ex_then ?_ | refine ex_block ?_ | refine wp_seq ?_ | refine wp_block ?_ | refine wp_skip ?_)
 refine wp_ret ?_
 repeat (first | refine ex_thenR ?_ | refine ex_blockR ?_)
 exact sx_ret F HM (res_tmp F rfl (s := 6) rfl)

set_option maxRecDepth 100000 in
set_option maxHeartbeats 8000000 in
theorem root_2 (P Q G H X Y N : Nat)
  (hQ : Q < 2 ^ 256)
  (hk : 0 < cmpN Q 1)
  (i1 : ∀ w, Calls Try.prog 20 #[grp P Q G H, num X] w fun e w' => e = .returned (.bool true) ∧ Below w.heap.size w w')
  (i2 : ∀ w, Calls Try.prog 20 #[grp P Q G H, num Y] w fun e w' => e = .returned (.bool false) ∧ Below w.heap.size w w')
  (w : World) : Calls Try.prog 8 #[grp P Q G H, arr2 X Y, num N] w fun e w' => e = .returned (.bool true) ∧ Below w.heap.size w w' := by
 refine sx_enter (args := [grp P Q G H, arr2 X Y, num N]) Try.func8 rfl Try.ntmps8 (by rfl) fun a F HM => ?_
 repeat (first | refine ex_then ?_ | refine ex_block ?_ | refine wp_seq ?_ | refine wp_block ?_ | refine wp_skip ?_)
 refine wp_region_lit ?_
 refine lx_new F HM (wanted_none rfl _) rfl (by rfl) (o_boxG (F.ev rfl)) fun a w gr F HM => ?_
 refine lx_new F HM (wanted_none rfl _) rfl (by rfl) (o_boxA (F.ev rfl)) fun a w ga F HM => ?_
 refine lx_new F HM (wanted_none rfl _) rfl (by rfl) (o_boxN (F.ev rfl)) fun a w gb F HM => ?_
 refine lx_value (v := .bool false) F (wanted_none rfl _) rfl (by rfl) (o_assign rfl) fun a F => ?_
 refine lx_nil ?_
 repeat (first | refine ex_then ?_ | refine ex_block ?_ | refine wp_seq ?_ | refine wp_block ?_ | refine wp_skip ?_)
 try simp only [List.append_eq, List.cons_append, List.nil_append]
 refine sx_drawn [⟨0, 18, [], .val (.pointer (some ⟨gr, 4, none⟩)), true⟩,
   ⟨1, 19, [0], .val (num Q), true⟩,
   ⟨2, 20, [1], .val (num 1), false⟩,
   ⟨3, 21, [1, 2], .val (.int .i64 (cmpN Q 1)), false⟩,
   ⟨4, 22, [3], .val (.bool false), true⟩,
   ⟨5, 23, [4], .val (.bool false), true⟩,
   ⟨6, 24, [5], .val (grp P Q G H), true⟩,
   ⟨7, 25, [5, 6], .val (.pointer (some ⟨ga, 0, none⟩)), true⟩,
   ⟨8, 26, [5, 7], .val (num X), true⟩,
   ⟨9, 27, [5, 6, 8], .val (.bool true), false⟩,
   ⟨10, 28, [5, 9], .val (.bool false), true⟩,
   ⟨11, 29, [5, 10], .val (.bool false), true⟩,
   ⟨12, 30, [11], .val (.bool false), true⟩,
   ⟨13, 31, [12], .val (grp P Q G H), true⟩,
   ⟨14, 32, [12, 13], .val (.pointer (some ⟨ga, 4, none⟩)), true⟩,
   ⟨15, 33, [12, 14], .val (num Y), true⟩,
   ⟨16, 34, [12, 13, 15], .val (.bool false), false⟩,
   ⟨17, 35, [12, 16], .val (.bool true), true⟩,
   ⟨18, 36, [12, 17], .val (.bool true), true⟩] 0 F HM (by kernel_rfl) (by rfl) (by rfl) ?_ ?_ ?_ ?_ ?_ ?_ ?_
 ·kernel_rfl
 ·exact of_decide_eq_true (by kernel_rfl)
 ·(repeat refine all_cons ⟨_, by rfl, by rfl⟩ ?_); exact all_nil
 ·kernel_rfl
 ·(repeat (refine all_cons ?_ ?_; rotate_left)); exact all_nil
  ·exact coreS _ _ _ _ _ _ _ (by rfl) (by rfl) (wants_none) (fun ρ w kn hs => o_fieldG1 (kn _ _ (F.old (by rfl) rfl)))
  ·exact coreS _ _ _ _ _ _ _ (by rfl) (by rfl) (wants_none) (fun ρ w kn hs => o_loadG1 (kn _ _ (kc 0 18)) (hs.get 2 rfl))
  ·exact core_pureAs _ (by rfl)
  ·exact core_pureAs _ (by rfl)
  ·exact coreS _ _ _ _ _ _ _ (by rfl) (by rfl) (wants_none) (fun ρ w kn hs => o_bin (u := .int .i64 (cmpN Q 1)) (v := .int .i64 0) (fun ρ hx hy => by simp only [execOp, hx, hy]; simp [go_sem]; exact hk) (kn _ _ (kc 3 21)) (kn _ _ (known_const _)))
  ·exact coreS _ _ _ _ _ _ _ (by rfl) (by rfl) (wants_none) (fun ρ w kn hs => o_move (kn _ _ (kc 4 22)))
  ·exact coreS _ _ _ _ _ _ _ (by rfl) (by rfl) (wc 5 23 5 (kc 5 23)) (fun ρ w kn hs => o_loadG (kn _ _ (F.old (by rfl) rfl)) (hs.get 2 rfl))
  ·exact coreS _ _ _ _ _ _ _ (by rfl) (by rfl) (wc 5 23 5 (kc 5 23)) (fun ρ w kn hs => o_idxA0 (kn _ _ (F.old (by rfl) rfl)) (kn _ _ (known_const _)))
  ·exact coreS _ _ _ _ _ _ _ (by rfl) (by rfl) (wc 5 23 5 (kc 5 23)) (fun ρ w kn hs => o_loadA0 (kn _ _ (kc 7 25)) (hs.get 1 rfl))
  ·exact core_pureAs _ (by rfl)
  ·exact coreS _ _ _ _ _ _ _ (by rfl) (by rfl) (wc 5 23 5 (kc 5 23)) (fun ρ w kn hs => o_not (b := true) (r := false) (kn _ _ (kc 9 27)) rfl)
  ·exact coreS _ _ _ _ _ _ _ (by rfl) (by rfl) (wants_none) (fun ρ w kn hs => o_pick (b := false) (r := .bool false) (kn _ _ (kc 5 23)) (kn _ _ (known_const _)) (kn _ _ (kc 10 28)) rfl)
  ·exact coreS _ _ _ _ _ _ _ (by rfl) (by rfl) (wants_none) (fun ρ w kn hs => o_move (kn _ _ (kc 11 29)))
  ·exact coreS _ _ _ _ _ _ _ (by rfl) (by rfl) (wc 12 30 12 (kc 12 30)) (fun ρ w kn hs => o_loadG (kn _ _ (F.old (by rfl) rfl)) (hs.get 2 rfl))
  ·exact coreS _ _ _ _ _ _ _ (by rfl) (by rfl) (wc 12 30 12 (kc 12 30)) (fun ρ w kn hs => o_idxA1 (kn _ _ (F.old (by rfl) rfl)) (kn _ _ (known_const _)))
  ·exact coreS _ _ _ _ _ _ _ (by rfl) (by rfl) (wc 12 30 12 (kc 12 30)) (fun ρ w kn hs => o_loadA1 (kn _ _ (kc 14 32)) (hs.get 1 rfl))
  ·exact core_pureAs _ (by rfl)
  ·exact coreS _ _ _ _ _ _ _ (by rfl) (by rfl) (wc 12 30 12 (kc 12 30)) (fun ρ w kn hs => o_not (b := false) (r := true) (kn _ _ (kc 16 34)) rfl)
  ·exact coreS _ _ _ _ _ _ _ (by rfl) (by rfl) (wants_none) (fun ρ w kn hs => o_pick (b := false) (r := .bool true) (kn _ _ (kc 12 30)) (kn _ _ (known_const _)) (kn _ _ (kc 17 35)) rfl)
 ·(repeat (refine all_cons ?_ ?_; rotate_left)); exact all_nil
  ·exact sA
  ·exact sA
  ·exact fun _ => coreG_call _ 22 _ _ [.const (.int .u64 1)] _ _ _ _ _ _ _ (by rfl) Try.func22 (by kernel_rfl) (by rfl) (by rfl) (wants_none) (.cons (known_const _) .nil) ((fun w => of8_any 1 (by decide) w))
  ·exact fun _ => coreG_call _ 29 _ _ [.tmp 19, .tmp 20] _ _ _ _ _ _ _ (by rfl) Try.func29 (by kernel_rfl) (by rfl) (by rfl) (wants_none) (.cons (kc 1 19) (.cons (kc 2 20) .nil)) ((fun w => cmp_any Q 1 hQ (by decide) w))
  ·exact sA
  ·exact sA
  ·exact sA
  ·exact sA
  ·exact sA
  ·exact fun _ => coreG_call _ 20 _ _ [.tmp 24, .tmp 26] _ _ _ _ _ _ _ (by rfl) Try.func20 (by kernel_rfl) (by rfl) (by rfl) (wc 5 23 5 (kc 5 23)) (.cons (kc 6 24) (.cons (kc 8 26) .nil)) (i1)
  ·exact sA
  ·exact sA
  ·exact sA
  ·exact sA
  ·exact sA
  ·exact sA
  ·exact fun _ => coreG_call _ 20 _ _ [.tmp 31, .tmp 33] _ _ _ _ _ _ _ (by rfl) Try.func20 (by kernel_rfl) (by rfl) (by rfl) (wc 12 30 12 (kc 12 30)) (.cons (kc 13 31) (.cons (kc 15 33) .nil)) (i2)
  ·exact sA
  ·exact sA
 intro gs rs a w hgs hrs F HM
 obtain rfl := nl0 rs hrs
 clear hrs
 obtain rfl := nl0 gs hgs
 clear hgs
 refine sx_done (by kernel_rfl) ?_ _
 repeat (first | refine ex_then ?_ | refine ex_block ?_ | refine wp_seq ?_ | refine wp_block ?_ | refine wp_skip ?_)
 refine wp_cond_true (F.ev rfl) ?_
 repeat (first | refine ex_then ?_ | refine ex_block ?_ | refine wp_seq ?_ | refine wp_block ?_ | refine wp_skip ?_)
 refine wp_region_lit ?_
 refine lx_call F (wanted_none rfl _) rfl (by rfl) (run_callF Try.func23 (by kernel_rfl) (by rfl) .nil _) (alive8_any _) fun a w z F => ?_
 replace HM := HM.on z
 clear z
 refine lx_value (v := .bool true) F (wanted_none rfl _) rfl (by rfl) (o_assign (F.ev rfl)) fun a F => ?_
 refine lx_nil ?_
 repeat (first | refine ex_then ?_ | refine ex_block ?_ | refine wp_seq ?_ | refine wp_block ?_ | refine wp_skip ?_)
 refine wp_ret ?_
 repeat (first | refine ex_thenR ?_ | refine ex_blockR ?_)
 exact sx_ret F HM (res_tmp F rfl (s := 6) rfl)

set_option maxRecDepth 100000 in
set_option maxHeartbeats 8000000 in
theorem root_3 (P Q G H X Y N D r V x y : Nat)
  (hQ : Q < 2 ^ 256)
  (hk : 0 < cmpN Q 1)
  (i1 : ∀ w, Calls Try.prog 20 #[grp P Q G H, num X] w fun e w' => e = .returned (.bool true) ∧ Below w.heap.size w w')
  (i2 : ∀ w, Calls Try.prog 20 #[grp P Q G H, num Y] w fun e w' => e = .returned (.bool true) ∧ Below w.heap.size w w')
  (cd : ∀ w, Calls Try.prog 24 #[num N, num Q] w fun e w' => e = .returned (.tuple #[num D, num r, .int .i64 0]) ∧ Below w.heap.size w w')
  (ci : ∀ w, Calls Try.prog 30 #[num r, num Q] w fun e w' => e = .returned (.tuple #[num V, .int .i64 7]) ∧ Below w.heap.size w w')
  (c1 : ∀ w, Calls Try.prog 16 #[grp P Q G H, num X, num N] w fun e w' => e = .returned (.tuple #[num x, .int .i64 0]) ∧ Below w.heap.size w w')
  (c2 : ∀ w, Calls Try.prog 16 #[grp P Q G H, num Y, num N] w fun e w' => e = .returned (.tuple #[num y, .int .i64 0]) ∧ Below w.heap.size w w')
  (w : World) : Calls Try.prog 8 #[grp P Q G H, arr2 X Y, num N] w fun e w' => e = .returned (.bool true) ∧ Below w.heap.size w w' := by
 refine sx_enter (args := [grp P Q G H, arr2 X Y, num N]) Try.func8 rfl Try.ntmps8 (by rfl) fun a F HM => ?_
 repeat (first | refine ex_then ?_ | refine ex_block ?_ | refine wp_seq ?_ | refine wp_block ?_ | refine wp_skip ?_)
 refine wp_region_lit ?_
 refine lx_new F HM (wanted_none rfl _) rfl (by rfl) (o_boxG (F.ev rfl)) fun a w gr F HM => ?_
 refine lx_new F HM (wanted_none rfl _) rfl (by rfl) (o_boxA (F.ev rfl)) fun a w ga F HM => ?_
 refine lx_new F HM (wanted_none rfl _) rfl (by rfl) (o_boxN (F.ev rfl)) fun a w gb F HM => ?_
 refine lx_value (v := .bool false) F (wanted_none rfl _) rfl (by rfl) (o_assign rfl) fun a F => ?_
 refine lx_nil ?_
 repeat (first | refine ex_then ?_ | refine ex_block ?_ | refine wp_seq ?_ | refine wp_block ?_ | refine wp_skip ?_)
 try simp only [List.append_eq, List.cons_append, List.nil_append]
 refine sx_drawn [⟨0, 18, [], .val (.pointer (some ⟨gr, 4, none⟩)), true⟩,
   ⟨1, 19, [0], .val (num Q), true⟩,
   ⟨2, 20, [1], .val (num 1), false⟩,
   ⟨3, 21, [1, 2], .val (.int .i64 (cmpN Q 1)), false⟩,
   ⟨4, 22, [3], .val (.bool false), true⟩,
   ⟨5, 23, [4], .val (.bool false), true⟩,
   ⟨6, 24, [5], .val (grp P Q G H), true⟩,
   ⟨7, 25, [5, 6], .val (.pointer (some ⟨ga, 0, none⟩)), true⟩,
   ⟨8, 26, [5, 7], .val (num X), true⟩,
   ⟨9, 27, [5, 6, 8], .val (.bool true), false⟩,
   ⟨10, 28, [5, 9], .val (.bool false), true⟩,
   ⟨11, 29, [5, 10], .val (.bool false), true⟩,
   ⟨12, 30, [11], .val (.bool false), true⟩,
   ⟨13, 31, [12], .val (grp P Q G H), true⟩,
   ⟨14, 32, [12, 13], .val (.pointer (some ⟨ga, 4, none⟩)), true⟩,
   ⟨15, 33, [12, 14], .val (num Y), true⟩,
   ⟨16, 34, [12, 13, 15], .val (.bool true), false⟩,
   ⟨17, 35, [12, 16], .val (.bool false), true⟩,
   ⟨18, 36, [12, 17], .val (.bool false), true⟩] 0 F HM (by kernel_rfl) (by rfl) (by rfl) ?_ ?_ ?_ ?_ ?_ ?_ ?_
 ·kernel_rfl
 ·exact of_decide_eq_true (by kernel_rfl)
 ·(repeat refine all_cons ⟨_, by rfl, by rfl⟩ ?_); exact all_nil
 ·kernel_rfl
 ·(repeat (refine all_cons ?_ ?_; rotate_left)); exact all_nil
  ·exact coreS _ _ _ _ _ _ _ (by rfl) (by rfl) (wants_none) (fun ρ w kn hs => o_fieldG1 (kn _ _ (F.old (by rfl) rfl)))
  ·exact coreS _ _ _ _ _ _ _ (by rfl) (by rfl) (wants_none) (fun ρ w kn hs => o_loadG1 (kn _ _ (kc 0 18)) (hs.get 2 rfl))
  ·exact core_pureAs _ (by rfl)
  ·exact core_pureAs _ (by rfl)
  ·exact coreS _ _ _ _ _ _ _ (by rfl) (by rfl) (wants_none) (fun ρ w kn hs => o_bin (u := .int .i64 (cmpN Q 1)) (v := .int .i64 0) (fun ρ hx hy => by simp only [execOp, hx, hy]; simp [go_sem]; exact hk) (kn _ _ (kc 3 21)) (kn _ _ (known_const _)))
  ·exact coreS _ _ _ _ _ _ _ (by rfl) (by rfl) (wants_none) (fun ρ w kn hs => o_move (kn _ _ (kc 4 22)))
  ·exact coreS _ _ _ _ _ _ _ (by rfl) (by rfl) (wc 5 23 5 (kc 5 23)) (fun ρ w kn hs => o_loadG (kn _ _ (F.old (by rfl) rfl)) (hs.get 2 rfl))
  ·exact coreS _ _ _ _ _ _ _ (by rfl) (by rfl) (wc 5 23 5 (kc 5 23)) (fun ρ w kn hs => o_idxA0 (kn _ _ (F.old (by rfl) rfl)) (kn _ _ (known_const _)))
  ·exact coreS _ _ _ _ _ _ _ (by rfl) (by rfl) (wc 5 23 5 (kc 5 23)) (fun ρ w kn hs => o_loadA0 (kn _ _ (kc 7 25)) (hs.get 1 rfl))
  ·exact core_pureAs _ (by rfl)
  ·exact coreS _ _ _ _ _ _ _ (by rfl) (by rfl) (wc 5 23 5 (kc 5 23)) (fun ρ w kn hs => o_not (b := true) (r := false) (kn _ _ (kc 9 27)) rfl)
  ·exact coreS _ _ _ _ _ _ _ (by rfl) (by rfl) (wants_none) (fun ρ w kn hs => o_pick (b := false) (r := .bool false) (kn _ _ (kc 5 23)) (kn _ _ (known_const _)) (kn _ _ (kc 10 28)) rfl)
  ·exact coreS _ _ _ _ _ _ _ (by rfl) (by rfl) (wants_none) (fun ρ w kn hs => o_move (kn _ _ (kc 11 29)))
  ·exact coreS _ _ _ _ _ _ _ (by rfl) (by rfl) (wc 12 30 12 (kc 12 30)) (fun ρ w kn hs => o_loadG (kn _ _ (F.old (by rfl) rfl)) (hs.get 2 rfl))
  ·exact coreS _ _ _ _ _ _ _ (by rfl) (by rfl) (wc 12 30 12 (kc 12 30)) (fun ρ w kn hs => o_idxA1 (kn _ _ (F.old (by rfl) rfl)) (kn _ _ (known_const _)))
  ·exact coreS _ _ _ _ _ _ _ (by rfl) (by rfl) (wc 12 30 12 (kc 12 30)) (fun ρ w kn hs => o_loadA1 (kn _ _ (kc 14 32)) (hs.get 1 rfl))
  ·exact core_pureAs _ (by rfl)
  ·exact coreS _ _ _ _ _ _ _ (by rfl) (by rfl) (wc 12 30 12 (kc 12 30)) (fun ρ w kn hs => o_not (b := true) (r := false) (kn _ _ (kc 16 34)) rfl)
  ·exact coreS _ _ _ _ _ _ _ (by rfl) (by rfl) (wants_none) (fun ρ w kn hs => o_pick (b := false) (r := .bool false) (kn _ _ (kc 12 30)) (kn _ _ (known_const _)) (kn _ _ (kc 17 35)) rfl)
 ·(repeat (refine all_cons ?_ ?_; rotate_left)); exact all_nil
  ·exact sA
  ·exact sA
  ·exact fun _ => coreG_call _ 22 _ _ [.const (.int .u64 1)] _ _ _ _ _ _ _ (by rfl) Try.func22 (by kernel_rfl) (by rfl) (by rfl) (wants_none) (.cons (known_const _) .nil) ((fun w => of8_any 1 (by decide) w))
  ·exact fun _ => coreG_call _ 29 _ _ [.tmp 19, .tmp 20] _ _ _ _ _ _ _ (by rfl) Try.func29 (by kernel_rfl) (by rfl) (by rfl) (wants_none) (.cons (kc 1 19) (.cons (kc 2 20) .nil)) ((fun w => cmp_any Q 1 hQ (by decide) w))
  ·exact sA
  ·exact sA
  ·exact sA
  ·exact sA
  ·exact sA
  ·exact fun _ => coreG_call _ 20 _ _ [.tmp 24, .tmp 26] _ _ _ _ _ _ _ (by rfl) Try.func20 (by kernel_rfl) (by rfl) (by rfl) (wc 5 23 5 (kc 5 23)) (.cons (kc 6 24) (.cons (kc 8 26) .nil)) (i1)
  ·exact sA
  ·exact sA
  ·exact sA
  ·exact sA
  ·exact sA
  ·exact sA
  ·exact fun _ => coreG_call _ 20 _ _ [.tmp 31, .tmp 33] _ _ _ _ _ _ _ (by rfl) Try.func20 (by kernel_rfl) (by rfl) (by rfl) (wc 12 30 12 (kc 12 30)) (.cons (kc 13 31) (.cons (kc 15 33) .nil)) (i2)
  ·exact sA
  ·exact sA
 intro gs rs a w hgs hrs F HM
 obtain rfl := nl0 rs hrs
 clear hrs
 obtain rfl := nl0 gs hgs
 clear hgs
 refine sx_done (by kernel_rfl) ?_ _
 repeat (first | refine ex_then ?_ | refine ex_block ?_ | refine wp_seq ?_ | refine wp_block ?_ | refine wp_skip ?_)
 refine wp_cond_false (F.ev rfl) ?_
 repeat (first | refine ex_then ?_ | refine ex_block ?_ | refine wp_seq ?_ | refine wp_block ?_ | refine wp_skip ?_)
 refine wp_region_lit ?_
 refine lx_value (v := num N) F (wanted_none rfl _) rfl (by rfl) (o_loadN (F.ev rfl) (HM.get 0 rfl)) fun a F => ?_
 refine lx_value (v := .pointer (some ⟨gr, 4, none⟩)) F (wanted_none rfl _) rfl (by rfl) (o_fieldG1 (F.ev rfl)) fun a F => ?_
 refine lx_value (v := num Q) F (wanted_none rfl _) rfl (by rfl) (o_loadG1 (F.ev rfl) (HM.get 2 rfl)) fun a F => ?_
 refine lx_call F (wanted_none rfl _) rfl (by rfl) (run_callF Try.func24 (by kernel_rfl) (by rfl) (.cons (F.ev rfl) (.cons (F.ev rfl) .nil)) _) (cd _) fun a w z F => ?_
 replace HM := HM.on z
 clear z
 refine lx_value (v := .tuple #[num D, num r, .int .i64 0]) F (wanted_none rfl _) rfl (by rfl) (o_move (F.ev rfl)) fun a F => ?_
 refine lx_value (v := num D) F (wanted_none rfl _) rfl (by rfl) (o_extract (F.ev rfl) rfl) fun a F => ?_
 refine lx_value (v := num r) F (wanted_none rfl _) rfl (by rfl) (o_extract (F.ev rfl) rfl) fun a F => ?_
 refine lx_value (v := .int .i64 0) F (wanted_none rfl _) rfl (by rfl) (o_extract (F.ev rfl) rfl) fun a F => ?_
 refine lx_new F HM (wanted_none rfl _) rfl (by rfl) (o_allocN) fun a w gd F HM => ?_
 refine lx_new F HM (wanted_none rfl _) rfl (by rfl) (o_allocN) fun a w gs F HM => ?_
 refine lx_store F HM (wanted_none rfl _) rfl (k := 1) rfl (o_storeN (F.ev rfl) (F.ev rfl) (HM.get 1 rfl)) (M2 := [(gs, 24, ncs 0), (gd, 24, ncs D), (gb, 24, ncs N), (ga, 42, acs X Y), (gr, 35, gcs P Q G H)]) rfl fun w HM => ?_
 refine lx_store F HM (wanted_none rfl _) rfl (k := 0) rfl (o_storeN (F.ev rfl) (F.ev rfl) (HM.get 0 rfl)) (M2 := [(gs, 24, ncs r), (gd, 24, ncs D), (gb, 24, ncs N), (ga, 42, acs X Y), (gr, 35, gcs P Q G H)]) rfl fun w HM => ?_
 refine lx_value (v := .int .i64 0) F (wanted_none rfl _) rfl (by rfl) (o_assign (F.ev rfl)) fun a F => ?_
 refine lx_nil ?_
 repeat (first | refine ex_then ?_ | refine ex_block ?_ | refine wp_seq ?_ | refine wp_block ?_ | refine wp_skip ?_)
 refine wp_region_lit ?_
 refine lx_value (v := num r) F (wanted_none rfl _) rfl (by rfl) (o_loadN (F.ev rfl) (HM.get 0 rfl)) fun a F => ?_
 refine lx_value (v := .pointer (some ⟨gr, 4, none⟩)) F (wanted_none rfl _) rfl (by rfl) (o_fieldG1 (F.ev rfl)) fun a F => ?_
 refine lx_value (v := num Q) F (wanted_none rfl _) rfl (by rfl) (o_loadG1 (F.ev rfl) (HM.get 4 rfl)) fun a F => ?_
 refine lx_call F (wanted_none rfl _) rfl (by rfl) (run_callF Try.func30 (by kernel_rfl) (by rfl) (.cons (F.ev rfl) (.cons (F.ev rfl) .nil)) _) (ci _) fun a w z F => ?_
 replace HM := HM.on z
 clear z
 refine lx_value (v := .tuple #[num V, .int .i64 7]) F (wanted_none rfl _) rfl (by rfl) (o_move (F.ev rfl)) fun a F => ?_
 refine lx_value (v := num V) F (wanted_none rfl _) rfl (by rfl) (o_extract (F.ev rfl) rfl) fun a F => ?_
 refine lx_value (v := .int .i64 7) F (wanted_none rfl _) rfl (by rfl) (o_extract (F.ev rfl) rfl) fun a F => ?_
 refine lx_new F HM (wanted_none rfl _) rfl (by rfl) (o_allocN) fun a w gy F HM => ?_
 refine lx_store F HM (wanted_none rfl _) rfl (k := 0) rfl (o_storeN (F.ev rfl) (F.ev rfl) (HM.get 0 rfl)) (M2 := [(gy, 24, ncs V), (gs, 24, ncs r), (gd, 24, ncs D), (gb, 24, ncs N), (ga, 42, acs X Y), (gr, 35, gcs P Q G H)]) rfl fun w HM => ?_
 refine lx_value (v := .int .i64 7) F (wanted_none rfl _) rfl (by rfl) (o_assign (F.ev rfl)) fun a F => ?_
 refine lx_nil ?_
 repeat (first | refine ex_then ?_ | refine ex_block ?_ | refine wp_seq ?_ | refine wp_block ?_ | refine wp_skip ?_)
 refine wp_region_lit ?_
 refine lx_value (v := grp P Q G H) F (wanted_none rfl _) rfl (by rfl) (o_loadG (F.ev rfl) (HM.get 5 rfl)) fun a F => ?_
 refine lx_value (v := .pointer (some ⟨ga, 0, none⟩)) F (wanted_none rfl _) rfl (by rfl) (o_idxA0 (F.ev rfl) rfl) fun a F => ?_
 refine lx_value (v := num X) F (wanted_none rfl _) rfl (by rfl) (o_loadA0 (F.ev rfl) (HM.get 4 rfl)) fun a F => ?_
 refine lx_value (v := num N) F (wanted_none rfl _) rfl (by rfl) (o_loadN (F.ev rfl) (HM.get 3 rfl)) fun a F => ?_
 refine lx_call F (wanted_none rfl _) rfl (by rfl) (run_callF Try.func16 (by kernel_rfl) (by rfl) (.cons (F.ev rfl) (.cons (F.ev rfl) (.cons (F.ev rfl) .nil))) _) (c1 _) fun a w z F => ?_
 replace HM := HM.on z
 clear z
 refine lx_value (v := .tuple #[num x, .int .i64 0]) F (wanted_none rfl _) rfl (by rfl) (o_move (F.ev rfl)) fun a F => ?_
 refine lx_value (v := num x) F (wanted_none rfl _) rfl (by rfl) (o_extract (F.ev rfl) rfl) fun a F => ?_
 refine lx_value (v := .int .i64 0) F (wanted_none rfl _) rfl (by rfl) (o_extract (F.ev rfl) rfl) fun a F => ?_
 refine lx_new F HM (wanted_none rfl _) rfl (by rfl) (o_allocN) fun a w gx F HM => ?_
 refine lx_store F HM (wanted_none rfl _) rfl (k := 0) rfl (o_storeN (F.ev rfl) (F.ev rfl) (HM.get 0 rfl)) (M2 := [(gx, 24, ncs x), (gy, 24, ncs V), (gs, 24, ncs r), (gd, 24, ncs D), (gb, 24, ncs N), (ga, 42, acs X Y), (gr, 35, gcs P Q G H)]) rfl fun w HM => ?_
 refine lx_value (v := .int .i64 0) F (wanted_none rfl _) rfl (by rfl) (o_assign (F.ev rfl)) fun a F => ?_
 refine lx_nil ?_
 repeat (first | refine ex_then ?_ | refine ex_block ?_ | refine wp_seq ?_ | refine wp_block ?_ | refine wp_skip ?_)
 refine wp_region_lit ?_
 refine lx_value (v := grp P Q G H) F (wanted_none rfl _) rfl (by rfl) (o_loadG (F.ev rfl) (HM.get 6 rfl)) fun a F => ?_
 refine lx_value (v := .pointer (some ⟨ga, 4, none⟩)) F (wanted_none rfl _) rfl (by rfl) (o_idxA1 (F.ev rfl) rfl) fun a F => ?_
 refine lx_value (v := num Y) F (wanted_none rfl _) rfl (by rfl) (o_loadA1 (F.ev rfl) (HM.get 5 rfl)) fun a F => ?_
 refine lx_value (v := num N) F (wanted_none rfl _) rfl (by rfl) (o_loadN (F.ev rfl) (HM.get 4 rfl)) fun a F => ?_
 refine lx_call F (wanted_none rfl _) rfl (by rfl) (run_callF Try.func16 (by kernel_rfl) (by rfl) (.cons (F.ev rfl) (.cons (F.ev rfl) (.cons (F.ev rfl) .nil))) _) (c2 _) fun a w z F => ?_
 replace HM := HM.on z
 clear z
 refine lx_value (v := .tuple #[num y, .int .i64 0]) F (wanted_none rfl _) rfl (by rfl) (o_move (F.ev rfl)) fun a F => ?_
 refine lx_value (v := num y) F (wanted_none rfl _) rfl (by rfl) (o_extract (F.ev rfl) rfl) fun a F => ?_
 refine lx_value (v := .int .i64 0) F (wanted_none rfl _) rfl (by rfl) (o_extract (F.ev rfl) rfl) fun a F => ?_
 refine lx_new F HM (wanted_none rfl _) rfl (by rfl) (o_allocN) fun a w gz F HM => ?_
 refine lx_store F HM (wanted_none rfl _) rfl (k := 0) rfl (o_storeN (F.ev rfl) (F.ev rfl) (HM.get 0 rfl)) (M2 := [(gz, 24, ncs y), (gx, 24, ncs x), (gy, 24, ncs V), (gs, 24, ncs r), (gd, 24, ncs D), (gb, 24, ncs N), (ga, 42, acs X Y), (gr, 35, gcs P Q G H)]) rfl fun w HM => ?_
 refine lx_value (v := .int .i64 0) F (wanted_none rfl _) rfl (by rfl) (o_assign (F.ev rfl)) fun a F => ?_
 refine lx_nil ?_
 repeat (first | refine ex_then ?_ | refine ex_block ?_ | refine wp_seq ?_ | refine wp_block ?_ | refine wp_skip ?_)
 refine wp_region_lit ?_
 refine lx_value (v := .int .i64 0) F (wanted_none rfl _) rfl (by rfl) (o_move (F.ev rfl)) fun a F => ?_
 refine lx_value (v := .bool false) F (wanted_none rfl _) rfl (by rfl) (o_bin (u := .int .i64 0) (v := .int .i64 0) (fun ρ hx hy => by simp only [execOp, hx, hy]; simp [go_sem]) (F.ev rfl) rfl) fun a F => ?_
 refine lx_value (v := .bool false) F (wanted_none rfl _) rfl (by rfl) (o_move (F.ev rfl)) fun a F => ?_
 refine lx_value (v := .int .i64 0) F (F.want (t := 71) (c := false) rfl rfl rfl (by rfl) rfl) rfl (by rfl) (o_move (F.ev rfl)) fun a F => ?_
 refine lx_value (v := .bool false) F (F.want (t := 71) (c := false) rfl rfl rfl (by rfl) rfl) rfl (by rfl) (o_bin (u := .int .i64 0) (v := .int .i64 0) (fun ρ hx hy => by simp only [execOp, hx, hy]; simp [go_sem]) (F.ev rfl) rfl) fun a F => ?_
 refine lx_value (v := .bool false) F (wanted_none rfl _) rfl (by rfl) (o_pick (b := false) (r := .bool false) (F.ev rfl) rfl (F.ev rfl) rfl) fun a F => ?_
 refine lx_value (v := .bool false) F (wanted_none rfl _) rfl (by rfl) (o_move (F.ev rfl)) fun a F => ?_
 refine lx_value (v := .int .i64 0) F (F.want (t := 75) (c := false) rfl rfl rfl (by rfl) rfl) rfl (by rfl) (o_move (F.ev rfl)) fun a F => ?_
 refine lx_value (v := .bool false) F (F.want (t := 75) (c := false) rfl rfl rfl (by rfl) rfl) rfl (by rfl) (o_bin (u := .int .i64 0) (v := .int .i64 0) (fun ρ hx hy => by simp only [execOp, hx, hy]; simp [go_sem]) (F.ev rfl) rfl) fun a F => ?_
 refine lx_value (v := .bool false) F (wanted_none rfl _) rfl (by rfl) (o_pick (b := false) (r := .bool false) (F.ev rfl) rfl (F.ev rfl) rfl) fun a F => ?_
 refine lx_nil ?_
 repeat (first | refine ex_then ?_ | refine ex_block ?_ | refine wp_seq ?_ | refine wp_block ?_ | refine wp_skip ?_)
 refine wp_cond_false (F.ev rfl) ?_
 repeat (first | refine ex_then ?_ | refine ex_block ?_ | refine wp_seq ?_ | refine wp_block ?_ | refine wp_skip ?_)
 refine wp_region_lit ?_
 refine lx_value (v := .int .i64 7) F (wanted_none rfl _) rfl (by rfl) (o_move (F.ev rfl)) fun a F => ?_
 refine lx_value (v := .bool true) F (wanted_none rfl _) rfl (by rfl) (o_bin (u := .int .i64 7) (v := .int .i64 0) (fun ρ hx hy => by simp only [execOp, hx, hy]; simp [go_sem]) (F.ev rfl) rfl) fun a F => ?_
 refine lx_nil ?_
 repeat (first | refine ex_then ?_ | refine ex_block ?_ | refine wp_seq ?_ | refine wp_block ?_ | refine wp_skip ?_)
 refine wp_cond_true (F.ev rfl) ?_
 repeat (first | refine ex_then ?_ | refine ex_block ?_ | refine wp_seq ?_ | refine wp_block ?_ | refine wp_skip ?_)
 refine wp_region_lit ?_
 refine lx_call F (wanted_none rfl _) rfl (by rfl) (run_callF Try.func23 (by kernel_rfl) (by rfl) .nil _) (alive8_any _) fun a w z F => ?_
 replace HM := HM.on z
 clear z
 refine lx_value (v := .bool true) F (wanted_none rfl _) rfl (by rfl) (o_move (F.ev rfl)) fun a F => ?_
 refine lx_value (v := .int .i64 7) F (F.want (t := 82) (c := true) rfl rfl rfl (by rfl) rfl) rfl (by rfl) (o_move (F.ev rfl)) fun a F => ?_
 refine lx_value (v := .bool true) F (F.want (t := 82) (c := true) rfl rfl rfl (by rfl) rfl) rfl (by rfl) (o_bin (u := .int .i64 7) (v := .int .i64 7) (fun ρ hx hy => by simp only [execOp, hx, hy]; simp [go_sem]) (F.ev rfl) rfl) fun a F => ?_
 refine lx_value (v := .bool true) F (wanted_none rfl _) rfl (by rfl) (o_pick (b := true) (r := .bool true) (F.ev rfl) (F.ev rfl) rfl rfl) fun a F => ?_
 refine lx_value (v := .bool true) F (wanted_none rfl _) rfl (by rfl) (o_assign (F.ev rfl)) fun a F => ?_
 refine lx_nil ?_
 repeat (first | refine ex_then ?_ | refine ex_block ?_ | refine wp_seq ?_ | refine wp_block ?_ | refine wp_skip ?_)
 refine wp_ret ?_
 repeat (first | refine ex_thenR ?_ | refine ex_blockR ?_)
 exact sx_ret F HM (res_tmp F rfl (s := 6) rfl)

set_option maxRecDepth 100000 in
set_option maxHeartbeats 8000000 in
theorem root_4true (P Q G H X Y N D r V x y : Nat)
  (hQ : Q < 2 ^ 256)
  (hk : 0 < cmpN Q 1)
  (i1 : ∀ w, Calls Try.prog 20 #[grp P Q G H, num X] w fun e w' => e = .returned (.bool true) ∧ Below w.heap.size w w')
  (i2 : ∀ w, Calls Try.prog 20 #[grp P Q G H, num Y] w fun e w' => e = .returned (.bool true) ∧ Below w.heap.size w w')
  (cd : ∀ w, Calls Try.prog 24 #[num N, num Q] w fun e w' => e = .returned (.tuple #[num D, num r, .int .i64 0]) ∧ Below w.heap.size w w')
  (ci : ∀ w, Calls Try.prog 30 #[num r, num Q] w fun e w' => e = .returned (.tuple #[num V, .int .i64 0]) ∧ Below w.heap.size w w')
  (c1 : ∀ w, Calls Try.prog 16 #[grp P Q G H, num X, num N] w fun e w' => e = .returned (.tuple #[num x, .int .i64 0]) ∧ Below w.heap.size w w')
  (c2 : ∀ w, Calls Try.prog 16 #[grp P Q G H, num Y, num N] w fun e w' => e = .returned (.tuple #[num y, .int .i64 0]) ∧ Below w.heap.size w w')
  (c3 : ∀ w, Calls Try.prog 16 #[grp P Q G H, num x, num V] w fun e w' => e = .returned (.tuple #[num X, .int .i64 0]) ∧ Below w.heap.size w w')
  (hx : x < 2 ^ 256)
  (hy : y < 2 ^ 256)
  (hX : X < 2 ^ 256)
  (hY : Y < 2 ^ 256)
  (e1 : decide (x = y) = true)
  (e2 : decide (X = Y) = true)
  (w : World) : Calls Try.prog 8 #[grp P Q G H, arr2 X Y, num N] w fun e w' => e = .returned (.bool true) ∧ Below w.heap.size w w' := by
 refine sx_enter (args := [grp P Q G H, arr2 X Y, num N]) Try.func8 rfl Try.ntmps8 (by rfl) fun a F HM => ?_
 repeat (first | refine ex_then ?_ | refine ex_block ?_ | refine wp_seq ?_ | refine wp_block ?_ | refine wp_skip ?_)
 refine wp_region_lit ?_
 refine lx_new F HM (wanted_none rfl _) rfl (by rfl) (o_boxG (F.ev rfl)) fun a w gr F HM => ?_
 refine lx_new F HM (wanted_none rfl _) rfl (by rfl) (o_boxA (F.ev rfl)) fun a w ga F HM => ?_
 refine lx_new F HM (wanted_none rfl _) rfl (by rfl) (o_boxN (F.ev rfl)) fun a w gb F HM => ?_
 refine lx_value (v := .bool false) F (wanted_none rfl _) rfl (by rfl) (o_assign rfl) fun a F => ?_
 refine lx_nil ?_
 repeat (first | refine ex_then ?_ | refine ex_block ?_ | refine wp_seq ?_ | refine wp_block ?_ | refine wp_skip ?_)
 try simp only [List.append_eq, List.cons_append, List.nil_append]
 refine sx_drawn [⟨0, 18, [], .val (.pointer (some ⟨gr, 4, none⟩)), true⟩,
   ⟨1, 19, [0], .val (num Q), true⟩,
   ⟨2, 20, [1], .val (num 1), false⟩,
   ⟨3, 21, [1, 2], .val (.int .i64 (cmpN Q 1)), false⟩,
   ⟨4, 22, [3], .val (.bool false), true⟩,
   ⟨5, 23, [4], .val (.bool false), true⟩,
   ⟨6, 24, [5], .val (grp P Q G H), true⟩,
   ⟨7, 25, [5, 6], .val (.pointer (some ⟨ga, 0, none⟩)), true⟩,
   ⟨8, 26, [5, 7], .val (num X), true⟩,
   ⟨9, 27, [5, 6, 8], .val (.bool true), false⟩,
   ⟨10, 28, [5, 9], .val (.bool false), true⟩,
   ⟨11, 29, [5, 10], .val (.bool false), true⟩,
   ⟨12, 30, [11], .val (.bool false), true⟩,
   ⟨13, 31, [12], .val (grp P Q G H), true⟩,
   ⟨14, 32, [12, 13], .val (.pointer (some ⟨ga, 4, none⟩)), true⟩,
   ⟨15, 33, [12, 14], .val (num Y), true⟩,
   ⟨16, 34, [12, 13, 15], .val (.bool true), false⟩,
   ⟨17, 35, [12, 16], .val (.bool false), true⟩,
   ⟨18, 36, [12, 17], .val (.bool false), true⟩] 0 F HM (by kernel_rfl) (by rfl) (by rfl) ?_ ?_ ?_ ?_ ?_ ?_ ?_
 ·kernel_rfl
 ·exact of_decide_eq_true (by kernel_rfl)
 ·(repeat refine all_cons ⟨_, by rfl, by rfl⟩ ?_); exact all_nil
 ·kernel_rfl
 ·(repeat (refine all_cons ?_ ?_; rotate_left)); exact all_nil
  ·exact coreS _ _ _ _ _ _ _ (by rfl) (by rfl) (wants_none) (fun ρ w kn hs => o_fieldG1 (kn _ _ (F.old (by rfl) rfl)))
  ·exact coreS _ _ _ _ _ _ _ (by rfl) (by rfl) (wants_none) (fun ρ w kn hs => o_loadG1 (kn _ _ (kc 0 18)) (hs.get 2 rfl))
  ·exact core_pureAs _ (by rfl)
  ·exact core_pureAs _ (by rfl)
  ·exact coreS _ _ _ _ _ _ _ (by rfl) (by rfl) (wants_none) (fun ρ w kn hs => o_bin (u := .int .i64 (cmpN Q 1)) (v := .int .i64 0) (fun ρ hx hy => by simp only [execOp, hx, hy]; simp [go_sem]; exact hk) (kn _ _ (kc 3 21)) (kn _ _ (known_const _)))
  ·exact coreS _ _ _ _ _ _ _ (by rfl) (by rfl) (wants_none) (fun ρ w kn hs => o_move (kn _ _ (kc 4 22)))
  ·exact coreS _ _ _ _ _ _ _ (by rfl) (by rfl) (wc 5 23 5 (kc 5 23)) (fun ρ w kn hs => o_loadG (kn _ _ (F.old (by rfl) rfl)) (hs.get 2 rfl))
  ·exact coreS _ _ _ _ _ _ _ (by rfl) (by rfl) (wc 5 23 5 (kc 5 23)) (fun ρ w kn hs => o_idxA0 (kn _ _ (F.old (by rfl) rfl)) (kn _ _ (known_const _)))
  ·exact coreS _ _ _ _ _ _ _ (by rfl) (by rfl) (wc 5 23 5 (kc 5 23)) (fun ρ w kn hs => o_loadA0 (kn _ _ (kc 7 25)) (hs.get 1 rfl))
  ·exact core_pureAs _ (by rfl)
  ·exact coreS _ _ _ _ _ _ _ (by rfl) (by rfl) (wc 5 23 5 (kc 5 23)) (fun ρ w kn hs => o_not (b := true) (r := false) (kn _ _ (kc 9 27)) rfl)
  ·exact coreS _ _ _ _ _ _ _ (by rfl) (by rfl) (wants_none) (fun ρ w kn hs => o_pick (b := false) (r := .bool false) (kn _ _ (kc 5 23)) (kn _ _ (known_const _)) (kn _ _ (kc 10 28)) rfl)
  ·exact coreS _ _ _ _ _ _ _ (by rfl) (by rfl) (wants_none) (fun ρ w kn hs => o_move (kn _ _ (kc 11 29)))
  ·exact coreS _ _ _ _ _ _ _ (by rfl) (by rfl) (wc 12 30 12 (kc 12 30)) (fun ρ w kn hs => o_loadG (kn _ _ (F.old (by rfl) rfl)) (hs.get 2 rfl))
  ·exact coreS _ _ _ _ _ _ _ (by rfl) (by rfl) (wc 12 30 12 (kc 12 30)) (fun ρ w kn hs => o_idxA1 (kn _ _ (F.old (by rfl) rfl)) (kn _ _ (known_const _)))
  ·exact coreS _ _ _ _ _ _ _ (by rfl) (by rfl) (wc 12 30 12 (kc 12 30)) (fun ρ w kn hs => o_loadA1 (kn _ _ (kc 14 32)) (hs.get 1 rfl))
  ·exact core_pureAs _ (by rfl)
  ·exact coreS _ _ _ _ _ _ _ (by rfl) (by rfl) (wc 12 30 12 (kc 12 30)) (fun ρ w kn hs => o_not (b := true) (r := false) (kn _ _ (kc 16 34)) rfl)
  ·exact coreS _ _ _ _ _ _ _ (by rfl) (by rfl) (wants_none) (fun ρ w kn hs => o_pick (b := false) (r := .bool false) (kn _ _ (kc 12 30)) (kn _ _ (known_const _)) (kn _ _ (kc 17 35)) rfl)
 ·(repeat (refine all_cons ?_ ?_; rotate_left)); exact all_nil
  ·exact sA
  ·exact sA
  ·exact fun _ => coreG_call _ 22 _ _ [.const (.int .u64 1)] _ _ _ _ _ _ _ (by rfl) Try.func22 (by kernel_rfl) (by rfl) (by rfl) (wants_none) (.cons (known_const _) .nil) ((fun w => of8_any 1 (by decide) w))
  ·exact fun _ => coreG_call _ 29 _ _ [.tmp 19, .tmp 20] _ _ _ _ _ _ _ (by rfl) Try.func29 (by kernel_rfl) (by rfl) (by rfl) (wants_none) (.cons (kc 1 19) (.cons (kc 2 20) .nil)) ((fun w => cmp_any Q 1 hQ (by decide) w))
  ·exact sA
  ·exact sA
  ·exact sA
  ·exact sA
  ·exact sA
  ·exact fun _ => coreG_call _ 20 _ _ [.tmp 24, .tmp 26] _ _ _ _ _ _ _ (by rfl) Try.func20 (by kernel_rfl) (by rfl) (by rfl) (wc 5 23 5 (kc 5 23)) (.cons (kc 6 24) (.cons (kc 8 26) .nil)) (i1)
  ·exact sA
  ·exact sA
  ·exact sA
  ·exact sA
  ·exact sA
  ·exact sA
  ·exact fun _ => coreG_call _ 20 _ _ [.tmp 31, .tmp 33] _ _ _ _ _ _ _ (by rfl) Try.func20 (by kernel_rfl) (by rfl) (by rfl) (wc 12 30 12 (kc 12 30)) (.cons (kc 13 31) (.cons (kc 15 33) .nil)) (i2)
  ·exact sA
  ·exact sA
 intro gs rs a w hgs hrs F HM
 obtain rfl := nl0 rs hrs
 clear hrs
 obtain rfl := nl0 gs hgs
 clear hgs
 refine sx_done (by kernel_rfl) ?_ _
 repeat (first | refine ex_then ?_ | refine ex_block ?_ | refine wp_seq ?_ | refine wp_block ?_ | refine wp_skip ?_)
 refine wp_cond_false (F.ev rfl) ?_
 repeat (first | refine ex_then ?_ | refine ex_block ?_ | refine wp_seq ?_ | refine wp_block ?_ | refine wp_skip ?_)
 refine wp_region_lit ?_
 refine lx_value (v := num N) F (wanted_none rfl _) rfl (by rfl) (o_loadN (F.ev rfl) (HM.get 0 rfl)) fun a F => ?_
 refine lx_value (v := .pointer (some ⟨gr, 4, none⟩)) F (wanted_none rfl _) rfl (by rfl) (o_fieldG1 (F.ev rfl)) fun a F => ?_
 refine lx_value (v := num Q) F (wanted_none rfl _) rfl (by rfl) (o_loadG1 (F.ev rfl) (HM.get 2 rfl)) fun a F => ?_
 refine lx_call F (wanted_none rfl _) rfl (by rfl) (run_callF Try.func24 (by kernel_rfl) (by rfl) (.cons (F.ev rfl) (.cons (F.ev rfl) .nil)) _) (cd _) fun a w z F => ?_
 replace HM := HM.on z
 clear z
 refine lx_value (v := .tuple #[num D, num r, .int .i64 0]) F (wanted_none rfl _) rfl (by rfl) (o_move (F.ev rfl)) fun a F => ?_
 refine lx_value (v := num D) F (wanted_none rfl _) rfl (by rfl) (o_extract (F.ev rfl) rfl) fun a F => ?_
 refine lx_value (v := num r) F (wanted_none rfl _) rfl (by rfl) (o_extract (F.ev rfl) rfl) fun a F => ?_
 refine lx_value (v := .int .i64 0) F (wanted_none rfl _) rfl (by rfl) (o_extract (F.ev rfl) rfl) fun a F => ?_
 refine lx_new F HM (wanted_none rfl _) rfl (by rfl) (o_allocN) fun a w gd F HM => ?_
 refine lx_new F HM (wanted_none rfl _) rfl (by rfl) (o_allocN) fun a w gs F HM => ?_
 refine lx_store F HM (wanted_none rfl _) rfl (k := 1) rfl (o_storeN (F.ev rfl) (F.ev rfl) (HM.get 1 rfl)) (M2 := [(gs, 24, ncs 0), (gd, 24, ncs D), (gb, 24, ncs N), (ga, 42, acs X Y), (gr, 35, gcs P Q G H)]) rfl fun w HM => ?_
 refine lx_store F HM (wanted_none rfl _) rfl (k := 0) rfl (o_storeN (F.ev rfl) (F.ev rfl) (HM.get 0 rfl)) (M2 := [(gs, 24, ncs r), (gd, 24, ncs D), (gb, 24, ncs N), (ga, 42, acs X Y), (gr, 35, gcs P Q G H)]) rfl fun w HM => ?_
 refine lx_value (v := .int .i64 0) F (wanted_none rfl _) rfl (by rfl) (o_assign (F.ev rfl)) fun a F => ?_
 refine lx_nil ?_
 repeat (first | refine ex_then ?_ | refine ex_block ?_ | refine wp_seq ?_ | refine wp_block ?_ | refine wp_skip ?_)
 refine wp_region_lit ?_
 refine lx_value (v := num r) F (wanted_none rfl _) rfl (by rfl) (o_loadN (F.ev rfl) (HM.get 0 rfl)) fun a F => ?_
 refine lx_value (v := .pointer (some ⟨gr, 4, none⟩)) F (wanted_none rfl _) rfl (by rfl) (o_fieldG1 (F.ev rfl)) fun a F => ?_
 refine lx_value (v := num Q) F (wanted_none rfl _) rfl (by rfl) (o_loadG1 (F.ev rfl) (HM.get 4 rfl)) fun a F => ?_
 refine lx_call F (wanted_none rfl _) rfl (by rfl) (run_callF Try.func30 (by kernel_rfl) (by rfl) (.cons (F.ev rfl) (.cons (F.ev rfl) .nil)) _) (ci _) fun a w z F => ?_
 replace HM := HM.on z
 clear z
 refine lx_value (v := .tuple #[num V, .int .i64 0]) F (wanted_none rfl _) rfl (by rfl) (o_move (F.ev rfl)) fun a F => ?_
 refine lx_value (v := num V) F (wanted_none rfl _) rfl (by rfl) (o_extract (F.ev rfl) rfl) fun a F => ?_
 refine lx_value (v := .int .i64 0) F (wanted_none rfl _) rfl (by rfl) (o_extract (F.ev rfl) rfl) fun a F => ?_
 refine lx_new F HM (wanted_none rfl _) rfl (by rfl) (o_allocN) fun a w gy F HM => ?_
 refine lx_store F HM (wanted_none rfl _) rfl (k := 0) rfl (o_storeN (F.ev rfl) (F.ev rfl) (HM.get 0 rfl)) (M2 := [(gy, 24, ncs V), (gs, 24, ncs r), (gd, 24, ncs D), (gb, 24, ncs N), (ga, 42, acs X Y), (gr, 35, gcs P Q G H)]) rfl fun w HM => ?_
 refine lx_value (v := .int .i64 0) F (wanted_none rfl _) rfl (by rfl) (o_assign (F.ev rfl)) fun a F => ?_
 refine lx_nil ?_
 repeat (first | refine ex_then ?_ | refine ex_block ?_ | refine wp_seq ?_ | refine wp_block ?_ | refine wp_skip ?_)
 refine wp_region_lit ?_
 refine lx_value (v := grp P Q G H) F (wanted_none rfl _) rfl (by rfl) (o_loadG (F.ev rfl) (HM.get 5 rfl)) fun a F => ?_
 refine lx_value (v := .pointer (some ⟨ga, 0, none⟩)) F (wanted_none rfl _) rfl (by rfl) (o_idxA0 (F.ev rfl) rfl) fun a F => ?_
 refine lx_value (v := num X) F (wanted_none rfl _) rfl (by rfl) (o_loadA0 (F.ev rfl) (HM.get 4 rfl)) fun a F => ?_
 refine lx_value (v := num N) F (wanted_none rfl _) rfl (by rfl) (o_loadN (F.ev rfl) (HM.get 3 rfl)) fun a F => ?_
 refine lx_call F (wanted_none rfl _) rfl (by rfl) (run_callF Try.func16 (by kernel_rfl) (by rfl) (.cons (F.ev rfl) (.cons (F.ev rfl) (.cons (F.ev rfl) .nil))) _) (c1 _) fun a w z F => ?_
 replace HM := HM.on z
 clear z
 refine lx_value (v := .tuple #[num x, .int .i64 0]) F (wanted_none rfl _) rfl (by rfl) (o_move (F.ev rfl)) fun a F => ?_
 refine lx_value (v := num x) F (wanted_none rfl _) rfl (by rfl) (o_extract (F.ev rfl) rfl) fun a F => ?_
 refine lx_value (v := .int .i64 0) F (wanted_none rfl _) rfl (by rfl) (o_extract (F.ev rfl) rfl) fun a F => ?_
 refine lx_new F HM (wanted_none rfl _) rfl (by rfl) (o_allocN) fun a w gx F HM => ?_
 refine lx_store F HM (wanted_none rfl _) rfl (k := 0) rfl (o_storeN (F.ev rfl) (F.ev rfl) (HM.get 0 rfl)) (M2 := [(gx, 24, ncs x), (gy, 24, ncs V), (gs, 24, ncs r), (gd, 24, ncs D), (gb, 24, ncs N), (ga, 42, acs X Y), (gr, 35, gcs P Q G H)]) rfl fun w HM => ?_
 refine lx_value (v := .int .i64 0) F (wanted_none rfl _) rfl (by rfl) (o_assign (F.ev rfl)) fun a F => ?_
 refine lx_nil ?_
 repeat (first | refine ex_then ?_ | refine ex_block ?_ | refine wp_seq ?_ | refine wp_block ?_ | refine wp_skip ?_)
 refine wp_region_lit ?_
 refine lx_value (v := grp P Q G H) F (wanted_none rfl _) rfl (by rfl) (o_loadG (F.ev rfl) (HM.get 6 rfl)) fun a F => ?_
 refine lx_value (v := .pointer (some ⟨ga, 4, none⟩)) F (wanted_none rfl _) rfl (by rfl) (o_idxA1 (F.ev rfl) rfl) fun a F => ?_
 refine lx_value (v := num Y) F (wanted_none rfl _) rfl (by rfl) (o_loadA1 (F.ev rfl) (HM.get 5 rfl)) fun a F => ?_
 refine lx_value (v := num N) F (wanted_none rfl _) rfl (by rfl) (o_loadN (F.ev rfl) (HM.get 4 rfl)) fun a F => ?_
 refine lx_call F (wanted_none rfl _) rfl (by rfl) (run_callF Try.func16 (by kernel_rfl) (by rfl) (.cons (F.ev rfl) (.cons (F.ev rfl) (.cons (F.ev rfl) .nil))) _) (c2 _) fun a w z F => ?_
 replace HM := HM.on z
 clear z
 refine lx_value (v := .tuple #[num y, .int .i64 0]) F (wanted_none rfl _) rfl (by rfl) (o_move (F.ev rfl)) fun a F => ?_
 refine lx_value (v := num y) F (wanted_none rfl _) rfl (by rfl) (o_extract (F.ev rfl) rfl) fun a F => ?_
 refine lx_value (v := .int .i64 0) F (wanted_none rfl _) rfl (by rfl) (o_extract (F.ev rfl) rfl) fun a F => ?_
 refine lx_new F HM (wanted_none rfl _) rfl (by rfl) (o_allocN) fun a w gz F HM => ?_
 refine lx_store F HM (wanted_none rfl _) rfl (k := 0) rfl (o_storeN (F.ev rfl) (F.ev rfl) (HM.get 0 rfl)) (M2 := [(gz, 24, ncs y), (gx, 24, ncs x), (gy, 24, ncs V), (gs, 24, ncs r), (gd, 24, ncs D), (gb, 24, ncs N), (ga, 42, acs X Y), (gr, 35, gcs P Q G H)]) rfl fun w HM => ?_
 refine lx_value (v := .int .i64 0) F (wanted_none rfl _) rfl (by rfl) (o_assign (F.ev rfl)) fun a F => ?_
 refine lx_nil ?_
 repeat (first | refine ex_then ?_ | refine ex_block ?_ | refine wp_seq ?_ | refine wp_block ?_ | refine wp_skip ?_)
 refine wp_region_lit ?_
 refine lx_value (v := .int .i64 0) F (wanted_none rfl _) rfl (by rfl) (o_move (F.ev rfl)) fun a F => ?_
 refine lx_value (v := .bool false) F (wanted_none rfl _) rfl (by rfl) (o_bin (u := .int .i64 0) (v := .int .i64 0) (fun ρ hx hy => by simp only [execOp, hx, hy]; simp [go_sem]) (F.ev rfl) rfl) fun a F => ?_
 refine lx_value (v := .bool false) F (wanted_none rfl _) rfl (by rfl) (o_move (F.ev rfl)) fun a F => ?_
 refine lx_value (v := .int .i64 0) F (F.want (t := 71) (c := false) rfl rfl rfl (by rfl) rfl) rfl (by rfl) (o_move (F.ev rfl)) fun a F => ?_
 refine lx_value (v := .bool false) F (F.want (t := 71) (c := false) rfl rfl rfl (by rfl) rfl) rfl (by rfl) (o_bin (u := .int .i64 0) (v := .int .i64 0) (fun ρ hx hy => by simp only [execOp, hx, hy]; simp [go_sem]) (F.ev rfl) rfl) fun a F => ?_
 refine lx_value (v := .bool false) F (wanted_none rfl _) rfl (by rfl) (o_pick (b := false) (r := .bool false) (F.ev rfl) rfl (F.ev rfl) rfl) fun a F => ?_
 refine lx_value (v := .bool false) F (wanted_none rfl _) rfl (by rfl) (o_move (F.ev rfl)) fun a F => ?_
 refine lx_value (v := .int .i64 0) F (F.want (t := 75) (c := false) rfl rfl rfl (by rfl) rfl) rfl (by rfl) (o_move (F.ev rfl)) fun a F => ?_
 refine lx_value (v := .bool false) F (F.want (t := 75) (c := false) rfl rfl rfl (by rfl) rfl) rfl (by rfl) (o_bin (u := .int .i64 0) (v := .int .i64 0) (fun ρ hx hy => by simp only [execOp, hx, hy]; simp [go_sem]) (F.ev rfl) rfl) fun a F => ?_
 refine lx_value (v := .bool false) F (wanted_none rfl _) rfl (by rfl) (o_pick (b := false) (r := .bool false) (F.ev rfl) rfl (F.ev rfl) rfl) fun a F => ?_
 refine lx_nil ?_
 repeat (first | refine ex_then ?_ | refine ex_block ?_ | refine wp_seq ?_ | refine wp_block ?_ | refine wp_skip ?_)
 refine wp_cond_false (F.ev rfl) ?_
 repeat (first | refine ex_then ?_ | refine ex_block ?_ | refine wp_seq ?_ | refine wp_block ?_ | refine wp_skip ?_)
 refine wp_region_lit ?_
 refine lx_value (v := .int .i64 0) F (wanted_none rfl _) rfl (by rfl) (o_move (F.ev rfl)) fun a F => ?_
 refine lx_value (v := .bool false) F (wanted_none rfl _) rfl (by rfl) (o_bin (u := .int .i64 0) (v := .int .i64 0) (fun ρ hx hy => by simp only [execOp, hx, hy]; simp [go_sem]) (F.ev rfl) rfl) fun a F => ?_
 refine lx_nil ?_
 repeat (first | refine ex_then ?_ | refine ex_block ?_ | refine wp_seq ?_ | refine wp_block ?_ | refine wp_skip ?_)
 refine wp_cond_false (F.ev rfl) ?_
 repeat (first | refine ex_then ?_ | refine ex_block ?_ | refine wp_seq ?_ | refine wp_block ?_ | refine wp_skip ?_)
 refine wp_region_lit ?_
 refine lx_value (v := grp P Q G H) F (wanted_none rfl _) rfl (by rfl) (o_loadG (F.ev rfl) (HM.get 7 rfl)) fun a F => ?_
 refine lx_value (v := num x) F (wanted_none rfl _) rfl (by rfl) (o_loadN (F.ev rfl) (HM.get 1 rfl)) fun a F => ?_
 refine lx_value (v := num V) F (wanted_none rfl _) rfl (by rfl) (o_loadN (F.ev rfl) (HM.get 2 rfl)) fun a F => ?_
 refine lx_call F (wanted_none rfl _) rfl (by rfl) (run_callF Try.func16 (by kernel_rfl) (by rfl) (.cons (F.ev rfl) (.cons (F.ev rfl) (.cons (F.ev rfl) .nil))) _) (c3 _) fun a w z F => ?_
 replace HM := HM.on z
 clear z
 refine lx_value (v := .tuple #[num X, .int .i64 0]) F (wanted_none rfl _) rfl (by rfl) (o_move (F.ev rfl)) fun a F => ?_
 refine lx_value (v := num X) F (wanted_none rfl _) rfl (by rfl) (o_extract (F.ev rfl) rfl) fun a F => ?_
 refine lx_value (v := .int .i64 0) F (wanted_none rfl _) rfl (by rfl) (o_extract (F.ev rfl) rfl) fun a F => ?_
 refine lx_new F HM (wanted_none rfl _) rfl (by rfl) (o_allocN) fun a w go F HM => ?_
 refine lx_store F HM (wanted_none rfl _) rfl (k := 0) rfl (o_storeN (F.ev rfl) (F.ev rfl) (HM.get 0 rfl)) (M2 := [(go, 24, ncs X), (gz, 24, ncs y), (gx, 24, ncs x), (gy, 24, ncs V), (gs, 24, ncs r), (gd, 24, ncs D), (gb, 24, ncs N), (ga, 42, acs X Y), (gr, 35, gcs P Q G H)]) rfl fun w HM => ?_
 refine lx_value (v := .int .i64 0) F (wanted_none rfl _) rfl (by rfl) (o_assign (F.ev rfl)) fun a F => ?_
 refine lx_nil ?_
 repeat (first | refine ex_then ?_ | refine ex_block ?_ | refine wp_seq ?_ | refine wp_block ?_ | refine wp_skip ?_)
 try simp only [List.append_eq, List.cons_append, List.nil_append]
 refine sx_drawn [⟨0, 93, [], .val (.bool true), false⟩,
   ⟨1, 94, [0], .val (.bool true), true⟩,
   ⟨2, 95, [1], .val (.int .i64 0), true⟩,
   ⟨3, 96, [1, 2], .val (.bool true), true⟩,
   ⟨4, 97, [1, 3], .val (.bool true), true⟩,
   ⟨5, 98, [4], .val (.bool true), true⟩,
   ⟨6, 99, [5], .val (num X), true⟩,
   ⟨7, 100, [5, 6], .val (.pointer (some ⟨ga, 0, none⟩)), true⟩,
   ⟨8, 101, [5, 7], .val (num X), true⟩,
   ⟨9, 102, [5, 6, 8], .val (.bool true), true⟩,
   ⟨10, 103, [5, 9], .val (.bool true), true⟩,
   ⟨11, 104, [10], .val (.bool true), true⟩,
   ⟨12, 105, [11], .val (num x), true⟩,
   ⟨13, 106, [11, 12], .val (num y), true⟩,
   ⟨14, 107, [11, 12, 13], .val (.bool true), true⟩,
   ⟨15, 108, [11, 14], .val (.pointer (some ⟨ga, 0, none⟩)), true⟩,
   ⟨16, 109, [11, 15], .val (num X), true⟩,
   ⟨17, 110, [11, 16], .val (.pointer (some ⟨ga, 4, none⟩)), true⟩,
   ⟨18, 111, [11, 17], .val (num Y), true⟩,
   ⟨19, 112, [11, 16, 18], .val (.bool true), true⟩,
   ⟨20, 113, [11, 14, 19], .val (.bool true), true⟩,
   ⟨21, 114, [11, 20], .val (.bool true), true⟩] 1 F HM (by kernel_rfl) (by rfl) (by rfl) ?_ ?_ ?_ ?_ ?_ ?_ ?_
 ·kernel_rfl
 ·exact of_decide_eq_true (by kernel_rfl)
 ·(repeat refine all_cons ⟨_, by rfl, by rfl⟩ ?_); exact all_nil
 ·kernel_rfl
 ·(repeat (refine all_cons ?_ ?_; rotate_left)); exact all_nil
  ·exact core_pureAs _ (by rfl)
  ·exact coreS _ _ _ _ _ _ _ (by rfl) (by rfl) (wants_none) (fun ρ w kn hs => o_move (kn _ _ (kc 0 93)))
  ·exact coreS _ _ _ _ _ _ _ (by rfl) (by rfl) (wc 1 94 1 (kc 1 94)) (fun ρ w kn hs => o_move (kn _ _ (F.old (by rfl) rfl)))
  ·exact coreS _ _ _ _ _ _ _ (by rfl) (by rfl) (wc 1 94 1 (kc 1 94)) (fun ρ w kn hs => o_bin (u := .int .i64 0) (v := .int .i64 0) (fun ρ hx hy => by simp only [execOp, hx, hy]; simp [go_sem]) (kn _ _ (kc 2 95)) (kn _ _ (known_const _)))
  ·exact coreS _ _ _ _ _ _ _ (by rfl) (by rfl) (wants_none) (fun ρ w kn hs => o_pick (b := true) (r := .bool true) (kn _ _ (kc 1 94)) (kn _ _ (kc 3 96)) (kn _ _ (known_const _)) rfl)
  ·exact coreS _ _ _ _ _ _ _ (by rfl) (by rfl) (wants_none) (fun ρ w kn hs => o_move (kn _ _ (kc 4 97)))
  ·exact coreS _ _ _ _ _ _ _ (by rfl) (by rfl) (wc 5 98 5 (kc 5 98)) (fun ρ w kn hs => o_loadN (kn _ _ (F.old (by rfl) rfl)) (hs.get 0 rfl))
  ·exact coreS _ _ _ _ _ _ _ (by rfl) (by rfl) (wc 5 98 5 (kc 5 98)) (fun ρ w kn hs => o_idxA0 (kn _ _ (F.old (by rfl) rfl)) (kn _ _ (known_const _)))
  ·exact coreS _ _ _ _ _ _ _ (by rfl) (by rfl) (wc 5 98 5 (kc 5 98)) (fun ρ w kn hs => o_loadA0 (kn _ _ (kc 7 100)) (hs.get 7 rfl))
  ·exact coreS _ _ _ _ _ _ _ (by rfl) (by rfl) (wc 5 98 5 (kc 5 98)) (fun ρ w kn hs => o_eqlS (kn _ _ (kc 6 99)) (kn _ _ (kc 8 101)))
  ·exact coreS _ _ _ _ _ _ _ (by rfl) (by rfl) (wants_none) (fun ρ w kn hs => o_pick (b := true) (r := .bool true) (kn _ _ (kc 5 98)) (kn _ _ (kc 9 102)) (kn _ _ (known_const _)) rfl)
  ·exact coreS _ _ _ _ _ _ _ (by rfl) (by rfl) (wants_none) (fun ρ w kn hs => o_move (kn _ _ (kc 10 103)))
  ·exact coreS _ _ _ _ _ _ _ (by rfl) (by rfl) (wc 11 104 11 (kc 11 104)) (fun ρ w kn hs => o_loadN (kn _ _ (F.old (by rfl) rfl)) (hs.get 2 rfl))
  ·exact coreS _ _ _ _ _ _ _ (by rfl) (by rfl) (wc 11 104 11 (kc 11 104)) (fun ρ w kn hs => o_loadN (kn _ _ (F.old (by rfl) rfl)) (hs.get 1 rfl))
  ·exact coreS _ _ _ _ _ _ _ (by rfl) (by rfl) (wc 11 104 11 (kc 11 104)) (fun ρ w kn hs => o_eqlN hx hy e1 (kn _ _ (kc 12 105)) (kn _ _ (kc 13 106)))
  ·exact coreS _ _ _ _ _ _ _ (by rfl) (by rfl) (wc 11 104 11 (kc 11 104)) (fun ρ w kn hs => o_idxA0 (kn _ _ (F.old (by rfl) rfl)) (kn _ _ (known_const _)))
  ·exact coreS _ _ _ _ _ _ _ (by rfl) (by rfl) (wc 11 104 11 (kc 11 104)) (fun ρ w kn hs => o_loadA0 (kn _ _ (kc 15 108)) (hs.get 7 rfl))
  ·exact coreS _ _ _ _ _ _ _ (by rfl) (by rfl) (wc 11 104 11 (kc 11 104)) (fun ρ w kn hs => o_idxA1 (kn _ _ (F.old (by rfl) rfl)) (kn _ _ (known_const _)))
  ·exact coreS _ _ _ _ _ _ _ (by rfl) (by rfl) (wc 11 104 11 (kc 11 104)) (fun ρ w kn hs => o_loadA1 (kn _ _ (kc 17 110)) (hs.get 7 rfl))
  ·exact coreS _ _ _ _ _ _ _ (by rfl) (by rfl) (wc 11 104 11 (kc 11 104)) (fun ρ w kn hs => o_eqlN hX hY e2 (kn _ _ (kc 16 109)) (kn _ _ (kc 18 111)))
  ·exact coreS _ _ _ _ _ _ _ (by rfl) (by rfl) (wc 11 104 11 (kc 11 104)) (fun ρ w kn hs => o_bin (u := .bool true) (v := .bool true) (fun ρ hx hy => by simp only [execOp, hx, hy]; simp [go_sem]) (kn _ _ (kc 14 107)) (kn _ _ (kc 19 112)))
  ·exact coreS _ _ _ _ _ _ _ (by rfl) (by rfl) (wants_none) (fun ρ w kn hs => o_pick (b := true) (r := .bool true) (kn _ _ (kc 11 104)) (kn _ _ (kc 20 113)) (kn _ _ (known_const _)) rfl)
 ·(repeat (refine all_cons ?_ ?_; rotate_left)); exact all_nil
  ·exact fun _ => coreG_call _ 23 _ _ [] _ _ _ _ _ _ _ (by rfl) Try.func23 (by kernel_rfl) (by rfl) (by rfl) (wants_none) .nil (alive8_any)
  ·exact sA
  ·exact sA
  ·exact sA
  ·exact sA
  ·exact sA
  ·exact sA
  ·exact sA
  ·exact sA
  ·exact sA
  ·exact sA
  ·exact sA
  ·exact sA
  ·exact sA
  ·exact sA
  ·exact sA
  ·exact sA
  ·exact sA
  ·exact sA
  ·exact sA
  ·exact sA
  ·exact sA
 intro gs rs a w hgs hrs F HM
 obtain rfl := nl0 rs hrs
 clear hrs
 obtain rfl := nl0 gs hgs
 clear hgs
 refine sx_assign (i := 22) (d := 6) (x := .tmp 114) (v := .bool true) F (HM) (by kernel_rfl) (by rfl) (by rfl) (F.ev rfl) fun a F => ?_
 refine sx_done (by kernel_rfl) ?_ _
 repeat (first | refine ex_then ?_ | refine ex_block ?_ | refine wp_seq ?_ | refine wp_block ?_ | refine wp_skip ?_)
 refine wp_ret ?_
 repeat (first | refine ex_thenR ?_ | refine ex_blockR ?_)
 exact sx_ret F HM (res_tmp F rfl (s := 6) rfl)

set_option maxRecDepth 100000 in
set_option maxHeartbeats 8000000 in
theorem root_4false (P Q G H X Y N D r V x y : Nat)
  (hQ : Q < 2 ^ 256)
  (hk : 0 < cmpN Q 1)
  (i1 : ∀ w, Calls Try.prog 20 #[grp P Q G H, num X] w fun e w' => e = .returned (.bool true) ∧ Below w.heap.size w w')
  (i2 : ∀ w, Calls Try.prog 20 #[grp P Q G H, num Y] w fun e w' => e = .returned (.bool true) ∧ Below w.heap.size w w')
  (cd : ∀ w, Calls Try.prog 24 #[num N, num Q] w fun e w' => e = .returned (.tuple #[num D, num r, .int .i64 0]) ∧ Below w.heap.size w w')
  (ci : ∀ w, Calls Try.prog 30 #[num r, num Q] w fun e w' => e = .returned (.tuple #[num V, .int .i64 0]) ∧ Below w.heap.size w w')
  (c1 : ∀ w, Calls Try.prog 16 #[grp P Q G H, num X, num N] w fun e w' => e = .returned (.tuple #[num x, .int .i64 0]) ∧ Below w.heap.size w w')
  (c2 : ∀ w, Calls Try.prog 16 #[grp P Q G H, num Y, num N] w fun e w' => e = .returned (.tuple #[num y, .int .i64 0]) ∧ Below w.heap.size w w')
  (c3 : ∀ w, Calls Try.prog 16 #[grp P Q G H, num x, num V] w fun e w' => e = .returned (.tuple #[num X, .int .i64 0]) ∧ Below w.heap.size w w')
  (hx : x < 2 ^ 256)
  (hy : y < 2 ^ 256)
  (hX : X < 2 ^ 256)
  (hY : Y < 2 ^ 256)
  (e1 : decide (x = y) = false)
  (e2 : decide (X = Y) = false)
  (w : World) : Calls Try.prog 8 #[grp P Q G H, arr2 X Y, num N] w fun e w' => e = .returned (.bool true) ∧ Below w.heap.size w w' := by
 refine sx_enter (args := [grp P Q G H, arr2 X Y, num N]) Try.func8 rfl Try.ntmps8 (by rfl) fun a F HM => ?_
 repeat (first | refine ex_then ?_ | refine ex_block ?_ | refine wp_seq ?_ | refine wp_block ?_ | refine wp_skip ?_)
 refine wp_region_lit ?_
 refine lx_new F HM (wanted_none rfl _) rfl (by rfl) (o_boxG (F.ev rfl)) fun a w gr F HM => ?_
 refine lx_new F HM (wanted_none rfl _) rfl (by rfl) (o_boxA (F.ev rfl)) fun a w ga F HM => ?_
 refine lx_new F HM (wanted_none rfl _) rfl (by rfl) (o_boxN (F.ev rfl)) fun a w gb F HM => ?_
 refine lx_value (v := .bool false) F (wanted_none rfl _) rfl (by rfl) (o_assign rfl) fun a F => ?_
 refine lx_nil ?_
 repeat (first | refine ex_then ?_ | refine ex_block ?_ | refine wp_seq ?_ | refine wp_block ?_ | refine wp_skip ?_)
 try simp only [List.append_eq, List.cons_append, List.nil_append]
 refine sx_drawn [⟨0, 18, [], .val (.pointer (some ⟨gr, 4, none⟩)), true⟩,
   ⟨1, 19, [0], .val (num Q), true⟩,
   ⟨2, 20, [1], .val (num 1), false⟩,
   ⟨3, 21, [1, 2], .val (.int .i64 (cmpN Q 1)), false⟩,
   ⟨4, 22, [3], .val (.bool false), true⟩,
   ⟨5, 23, [4], .val (.bool false), true⟩,
   ⟨6, 24, [5], .val (grp P Q G H), true⟩,
   ⟨7, 25, [5, 6], .val (.pointer (some ⟨ga, 0, none⟩)), true⟩,
   ⟨8, 26, [5, 7], .val (num X), true⟩,
   ⟨9, 27, [5, 6, 8], .val (.bool true), false⟩,
   ⟨10, 28, [5, 9], .val (.bool false), true⟩,
   ⟨11, 29, [5, 10], .val (.bool false), true⟩,
   ⟨12, 30, [11], .val (.bool false), true⟩,
   ⟨13, 31, [12], .val (grp P Q G H), true⟩,
   ⟨14, 32, [12, 13], .val (.pointer (some ⟨ga, 4, none⟩)), true⟩,
   ⟨15, 33, [12, 14], .val (num Y), true⟩,
   ⟨16, 34, [12, 13, 15], .val (.bool true), false⟩,
   ⟨17, 35, [12, 16], .val (.bool false), true⟩,
   ⟨18, 36, [12, 17], .val (.bool false), true⟩] 0 F HM (by kernel_rfl) (by rfl) (by rfl) ?_ ?_ ?_ ?_ ?_ ?_ ?_
 ·kernel_rfl
 ·exact of_decide_eq_true (by kernel_rfl)
 ·(repeat refine all_cons ⟨_, by rfl, by rfl⟩ ?_); exact all_nil
 ·kernel_rfl
 ·(repeat (refine all_cons ?_ ?_; rotate_left)); exact all_nil
  ·exact coreS _ _ _ _ _ _ _ (by rfl) (by rfl) (wants_none) (fun ρ w kn hs => o_fieldG1 (kn _ _ (F.old (by rfl) rfl)))
  ·exact coreS _ _ _ _ _ _ _ (by rfl) (by rfl) (wants_none) (fun ρ w kn hs => o_loadG1 (kn _ _ (kc 0 18)) (hs.get 2 rfl))
  ·exact core_pureAs _ (by rfl)
  ·exact core_pureAs _ (by rfl)
  ·exact coreS _ _ _ _ _ _ _ (by rfl) (by rfl) (wants_none) (fun ρ w kn hs => o_bin (u := .int .i64 (cmpN Q 1)) (v := .int .i64 0) (fun ρ hx hy => by simp only [execOp, hx, hy]; simp [go_sem]; exact hk) (kn _ _ (kc 3 21)) (kn _ _ (known_const _)))
  ·exact coreS _ _ _ _ _ _ _ (by rfl) (by rfl) (wants_none) (fun ρ w kn hs => o_move (kn _ _ (kc 4 22)))
  ·exact coreS _ _ _ _ _ _ _ (by rfl) (by rfl) (wc 5 23 5 (kc 5 23)) (fun ρ w kn hs => o_loadG (kn _ _ (F.old (by rfl) rfl)) (hs.get 2 rfl))
  ·exact coreS _ _ _ _ _ _ _ (by rfl) (by rfl) (wc 5 23 5 (kc 5 23)) (fun ρ w kn hs => o_idxA0 (kn _ _ (F.old (by rfl) rfl)) (kn _ _ (known_const _)))
  ·exact coreS _ _ _ _ _ _ _ (by rfl) (by rfl) (wc 5 23 5 (kc 5 23)) (fun ρ w kn hs => o_loadA0 (kn _ _ (kc 7 25)) (hs.get 1 rfl))
  ·exact core_pureAs _ (by rfl)
  ·exact coreS _ _ _ _ _ _ _ (by rfl) (by rfl) (wc 5 23 5 (kc 5 23)) (fun ρ w kn hs => o_not (b := true) (r := false) (kn _ _ (kc 9 27)) rfl)
  ·exact coreS _ _ _ _ _ _ _ (by rfl) (by rfl) (wants_none) (fun ρ w kn hs => o_pick (b := false) (r := .bool false) (kn _ _ (kc 5 23)) (kn _ _ (known_const _)) (kn _ _ (kc 10 28)) rfl)
  ·exact coreS _ _ _ _ _ _ _ (by rfl) (by rfl) (wants_none) (fun ρ w kn hs => o_move (kn _ _ (kc 11 29)))
  ·exact coreS _ _ _ _ _ _ _ (by rfl) (by rfl) (wc 12 30 12 (kc 12 30)) (fun ρ w kn hs => o_loadG (kn _ _ (F.old (by rfl) rfl)) (hs.get 2 rfl))
  ·exact coreS _ _ _ _ _ _ _ (by rfl) (by rfl) (wc 12 30 12 (kc 12 30)) (fun ρ w kn hs => o_idxA1 (kn _ _ (F.old (by rfl) rfl)) (kn _ _ (known_const _)))
  ·exact coreS _ _ _ _ _ _ _ (by rfl) (by rfl) (wc 12 30 12 (kc 12 30)) (fun ρ w kn hs => o_loadA1 (kn _ _ (kc 14 32)) (hs.get 1 rfl))
  ·exact core_pureAs _ (by rfl)
  ·exact coreS _ _ _ _ _ _ _ (by rfl) (by rfl) (wc 12 30 12 (kc 12 30)) (fun ρ w kn hs => o_not (b := true) (r := false) (kn _ _ (kc 16 34)) rfl)
  ·exact coreS _ _ _ _ _ _ _ (by rfl) (by rfl) (wants_none) (fun ρ w kn hs => o_pick (b := false) (r := .bool false) (kn _ _ (kc 12 30)) (kn _ _ (known_const _)) (kn _ _ (kc 17 35)) rfl)
 ·(repeat (refine all_cons ?_ ?_; rotate_left)); exact all_nil
  ·exact sA
  ·exact sA
  ·exact fun _ => coreG_call _ 22 _ _ [.const (.int .u64 1)] _ _ _ _ _ _ _ (by rfl) Try.func22 (by kernel_rfl) (by rfl) (by rfl) (wants_none) (.cons (known_const _) .nil) ((fun w => of8_any 1 (by decide) w))
  ·exact fun _ => coreG_call _ 29 _ _ [.tmp 19, .tmp 20] _ _ _ _ _ _ _ (by rfl) Try.func29 (by kernel_rfl) (by rfl) (by rfl) (wants_none) (.cons (kc 1 19) (.cons (kc 2 20) .nil)) ((fun w => cmp_any Q 1 hQ (by decide) w))
  ·exact sA
  ·exact sA
  ·exact sA
  ·exact sA
  ·exact sA
  ·exact fun _ => coreG_call _ 20 _ _ [.tmp 24, .tmp 26] _ _ _ _ _ _ _ (by rfl) Try.func20 (by kernel_rfl) (by rfl) (by rfl) (wc 5 23 5 (kc 5 23)) (.cons (kc 6 24) (.cons (kc 8 26) .nil)) (i1)
  ·exact sA
  ·exact sA
  ·exact sA
  ·exact sA
  ·exact sA
  ·exact sA
  ·exact fun _ => coreG_call _ 20 _ _ [.tmp 31, .tmp 33] _ _ _ _ _ _ _ (by rfl) Try.func20 (by kernel_rfl) (by rfl) (by rfl) (wc 12 30 12 (kc 12 30)) (.cons (kc 13 31) (.cons (kc 15 33) .nil)) (i2)
  ·exact sA
  ·exact sA
 intro gs rs a w hgs hrs F HM
 obtain rfl := nl0 rs hrs
 clear hrs
 obtain rfl := nl0 gs hgs
 clear hgs
 refine sx_done (by kernel_rfl) ?_ _
 repeat (first | refine ex_then ?_ | refine ex_block ?_ | refine wp_seq ?_ | refine wp_block ?_ | refine wp_skip ?_)
 refine wp_cond_false (F.ev rfl) ?_
 repeat (first | refine ex_then ?_ | refine ex_block ?_ | refine wp_seq ?_ | refine wp_block ?_ | refine wp_skip ?_)
 refine wp_region_lit ?_
 refine lx_value (v := num N) F (wanted_none rfl _) rfl (by rfl) (o_loadN (F.ev rfl) (HM.get 0 rfl)) fun a F => ?_
 refine lx_value (v := .pointer (some ⟨gr, 4, none⟩)) F (wanted_none rfl _) rfl (by rfl) (o_fieldG1 (F.ev rfl)) fun a F => ?_
 refine lx_value (v := num Q) F (wanted_none rfl _) rfl (by rfl) (o_loadG1 (F.ev rfl) (HM.get 2 rfl)) fun a F => ?_
 refine lx_call F (wanted_none rfl _) rfl (by rfl) (run_callF Try.func24 (by kernel_rfl) (by rfl) (.cons (F.ev rfl) (.cons (F.ev rfl) .nil)) _) (cd _) fun a w z F => ?_
 replace HM := HM.on z
 clear z
 refine lx_value (v := .tuple #[num D, num r, .int .i64 0]) F (wanted_none rfl _) rfl (by rfl) (o_move (F.ev rfl)) fun a F => ?_
 refine lx_value (v := num D) F (wanted_none rfl _) rfl (by rfl) (o_extract (F.ev rfl) rfl) fun a F => ?_
 refine lx_value (v := num r) F (wanted_none rfl _) rfl (by rfl) (o_extract (F.ev rfl) rfl) fun a F => ?_
 refine lx_value (v := .int .i64 0) F (wanted_none rfl _) rfl (by rfl) (o_extract (F.ev rfl) rfl) fun a F => ?_
 refine lx_new F HM (wanted_none rfl _) rfl (by rfl) (o_allocN) fun a w gd F HM => ?_
 refine lx_new F HM (wanted_none rfl _) rfl (by rfl) (o_allocN) fun a w gs F HM => ?_
 refine lx_store F HM (wanted_none rfl _) rfl (k := 1) rfl (o_storeN (F.ev rfl) (F.ev rfl) (HM.get 1 rfl)) (M2 := [(gs, 24, ncs 0), (gd, 24, ncs D), (gb, 24, ncs N), (ga, 42, acs X Y), (gr, 35, gcs P Q G H)]) rfl fun w HM => ?_
 refine lx_store F HM (wanted_none rfl _) rfl (k := 0) rfl (o_storeN (F.ev rfl) (F.ev rfl) (HM.get 0 rfl)) (M2 := [(gs, 24, ncs r), (gd, 24, ncs D), (gb, 24, ncs N), (ga, 42, acs X Y), (gr, 35, gcs P Q G H)]) rfl fun w HM => ?_
 refine lx_value (v := .int .i64 0) F (wanted_none rfl _) rfl (by rfl) (o_assign (F.ev rfl)) fun a F => ?_
 refine lx_nil ?_
 repeat (first | refine ex_then ?_ | refine ex_block ?_ | refine wp_seq ?_ | refine wp_block ?_ | refine wp_skip ?_)
 refine wp_region_lit ?_
 refine lx_value (v := num r) F (wanted_none rfl _) rfl (by rfl) (o_loadN (F.ev rfl) (HM.get 0 rfl)) fun a F => ?_
 refine lx_value (v := .pointer (some ⟨gr, 4, none⟩)) F (wanted_none rfl _) rfl (by rfl) (o_fieldG1 (F.ev rfl)) fun a F => ?_
 refine lx_value (v := num Q) F (wanted_none rfl _) rfl (by rfl) (o_loadG1 (F.ev rfl) (HM.get 4 rfl)) fun a F => ?_
 refine lx_call F (wanted_none rfl _) rfl (by rfl) (run_callF Try.func30 (by kernel_rfl) (by rfl) (.cons (F.ev rfl) (.cons (F.ev rfl) .nil)) _) (ci _) fun a w z F => ?_
 replace HM := HM.on z
 clear z
 refine lx_value (v := .tuple #[num V, .int .i64 0]) F (wanted_none rfl _) rfl (by rfl) (o_move (F.ev rfl)) fun a F => ?_
 refine lx_value (v := num V) F (wanted_none rfl _) rfl (by rfl) (o_extract (F.ev rfl) rfl) fun a F => ?_
 refine lx_value (v := .int .i64 0) F (wanted_none rfl _) rfl (by rfl) (o_extract (F.ev rfl) rfl) fun a F => ?_
 refine lx_new F HM (wanted_none rfl _) rfl (by rfl) (o_allocN) fun a w gy F HM => ?_
 refine lx_store F HM (wanted_none rfl _) rfl (k := 0) rfl (o_storeN (F.ev rfl) (F.ev rfl) (HM.get 0 rfl)) (M2 := [(gy, 24, ncs V), (gs, 24, ncs r), (gd, 24, ncs D), (gb, 24, ncs N), (ga, 42, acs X Y), (gr, 35, gcs P Q G H)]) rfl fun w HM => ?_
 refine lx_value (v := .int .i64 0) F (wanted_none rfl _) rfl (by rfl) (o_assign (F.ev rfl)) fun a F => ?_
 refine lx_nil ?_
 repeat (first | refine ex_then ?_ | refine ex_block ?_ | refine wp_seq ?_ | refine wp_block ?_ | refine wp_skip ?_)
 refine wp_region_lit ?_
 refine lx_value (v := grp P Q G H) F (wanted_none rfl _) rfl (by rfl) (o_loadG (F.ev rfl) (HM.get 5 rfl)) fun a F => ?_
 refine lx_value (v := .pointer (some ⟨ga, 0, none⟩)) F (wanted_none rfl _) rfl (by rfl) (o_idxA0 (F.ev rfl) rfl) fun a F => ?_
 refine lx_value (v := num X) F (wanted_none rfl _) rfl (by rfl) (o_loadA0 (F.ev rfl) (HM.get 4 rfl)) fun a F => ?_
 refine lx_value (v := num N) F (wanted_none rfl _) rfl (by rfl) (o_loadN (F.ev rfl) (HM.get 3 rfl)) fun a F => ?_
 refine lx_call F (wanted_none rfl _) rfl (by rfl) (run_callF Try.func16 (by kernel_rfl) (by rfl) (.cons (F.ev rfl) (.cons (F.ev rfl) (.cons (F.ev rfl) .nil))) _) (c1 _) fun a w z F => ?_
 replace HM := HM.on z
 clear z
 refine lx_value (v := .tuple #[num x, .int .i64 0]) F (wanted_none rfl _) rfl (by rfl) (o_move (F.ev rfl)) fun a F => ?_
 refine lx_value (v := num x) F (wanted_none rfl _) rfl (by rfl) (o_extract (F.ev rfl) rfl) fun a F => ?_
 refine lx_value (v := .int .i64 0) F (wanted_none rfl _) rfl (by rfl) (o_extract (F.ev rfl) rfl) fun a F => ?_
 refine lx_new F HM (wanted_none rfl _) rfl (by rfl) (o_allocN) fun a w gx F HM => ?_
 refine lx_store F HM (wanted_none rfl _) rfl (k := 0) rfl (o_storeN (F.ev rfl) (F.ev rfl) (HM.get 0 rfl)) (M2 := [(gx, 24, ncs x), (gy, 24, ncs V), (gs, 24, ncs r), (gd, 24, ncs D), (gb, 24, ncs N), (ga, 42, acs X Y), (gr, 35, gcs P Q G H)]) rfl fun w HM => ?_
 refine lx_value (v := .int .i64 0) F (wanted_none rfl _) rfl (by rfl) (o_assign (F.ev rfl)) fun a F => ?_
 refine lx_nil ?_
 repeat (first | refine ex_then ?_ | refine ex_block ?_ | refine wp_seq ?_ | refine wp_block ?_ | refine wp_skip ?_)
 refine wp_region_lit ?_
 refine lx_value (v := grp P Q G H) F (wanted_none rfl _) rfl (by rfl) (o_loadG (F.ev rfl) (HM.get 6 rfl)) fun a F => ?_
 refine lx_value (v := .pointer (some ⟨ga, 4, none⟩)) F (wanted_none rfl _) rfl (by rfl) (o_idxA1 (F.ev rfl) rfl) fun a F => ?_
 refine lx_value (v := num Y) F (wanted_none rfl _) rfl (by rfl) (o_loadA1 (F.ev rfl) (HM.get 5 rfl)) fun a F => ?_
 refine lx_value (v := num N) F (wanted_none rfl _) rfl (by rfl) (o_loadN (F.ev rfl) (HM.get 4 rfl)) fun a F => ?_
 refine lx_call F (wanted_none rfl _) rfl (by rfl) (run_callF Try.func16 (by kernel_rfl) (by rfl) (.cons (F.ev rfl) (.cons (F.ev rfl) (.cons (F.ev rfl) .nil))) _) (c2 _) fun a w z F => ?_
 replace HM := HM.on z
 clear z
 refine lx_value (v := .tuple #[num y, .int .i64 0]) F (wanted_none rfl _) rfl (by rfl) (o_move (F.ev rfl)) fun a F => ?_
 refine lx_value (v := num y) F (wanted_none rfl _) rfl (by rfl) (o_extract (F.ev rfl) rfl) fun a F => ?_
 refine lx_value (v := .int .i64 0) F (wanted_none rfl _) rfl (by rfl) (o_extract (F.ev rfl) rfl) fun a F => ?_
 refine lx_new F HM (wanted_none rfl _) rfl (by rfl) (o_allocN) fun a w gz F HM => ?_
 refine lx_store F HM (wanted_none rfl _) rfl (k := 0) rfl (o_storeN (F.ev rfl) (F.ev rfl) (HM.get 0 rfl)) (M2 := [(gz, 24, ncs y), (gx, 24, ncs x), (gy, 24, ncs V), (gs, 24, ncs r), (gd, 24, ncs D), (gb, 24, ncs N), (ga, 42, acs X Y), (gr, 35, gcs P Q G H)]) rfl fun w HM => ?_
 refine lx_value (v := .int .i64 0) F (wanted_none rfl _) rfl (by rfl) (o_assign (F.ev rfl)) fun a F => ?_
 refine lx_nil ?_
 repeat (first | refine ex_then ?_ | refine ex_block ?_ | refine wp_seq ?_ | refine wp_block ?_ | refine wp_skip ?_)
 refine wp_region_lit ?_
 refine lx_value (v := .int .i64 0) F (wanted_none rfl _) rfl (by rfl) (o_move (F.ev rfl)) fun a F => ?_
 refine lx_value (v := .bool false) F (wanted_none rfl _) rfl (by rfl) (o_bin (u := .int .i64 0) (v := .int .i64 0) (fun ρ hx hy => by simp only [execOp, hx, hy]; simp [go_sem]) (F.ev rfl) rfl) fun a F => ?_
 refine lx_value (v := .bool false) F (wanted_none rfl _) rfl (by rfl) (o_move (F.ev rfl)) fun a F => ?_
 refine lx_value (v := .int .i64 0) F (F.want (t := 71) (c := false) rfl rfl rfl (by rfl) rfl) rfl (by rfl) (o_move (F.ev rfl)) fun a F => ?_
 refine lx_value (v := .bool false) F (F.want (t := 71) (c := false) rfl rfl rfl (by rfl) rfl) rfl (by rfl) (o_bin (u := .int .i64 0) (v := .int .i64 0) (fun ρ hx hy => by simp only [execOp, hx, hy]; simp [go_sem]) (F.ev rfl) rfl) fun a F => ?_
 refine lx_value (v := .bool false) F (wanted_none rfl _) rfl (by rfl) (o_pick (b := false) (r := .bool false) (F.ev rfl) rfl (F.ev rfl) rfl) fun a F => ?_
 refine lx_value (v := .bool false) F (wanted_none rfl _) rfl (by rfl) (o_move (F.ev rfl)) fun a F => ?_
 refine lx_value (v := .int .i64 0) F (F.want (t := 75) (c := false) rfl rfl rfl (by rfl) rfl) rfl (by rfl) (o_move (F.ev rfl)) fun a F => ?_
 refine lx_value (v := .bool false) F (F.want (t := 75) (c := false) rfl rfl rfl (by rfl) rfl) rfl (by rfl) (o_bin (u := .int .i64 0) (v := .int .i64 0) (fun ρ hx hy => by simp only [execOp, hx, hy]; simp [go_sem]) (F.ev rfl) rfl) fun a F => ?_
 refine lx_value (v := .bool false) F (wanted_none rfl _) rfl (by rfl) (o_pick (b := false) (r := .bool false) (F.ev rfl) rfl (F.ev rfl) rfl) fun a F => ?_
 refine lx_nil ?_
 repeat (first | refine ex_then ?_ | refine ex_block ?_ | refine wp_seq ?_ | refine wp_block ?_ | refine wp_skip ?_)
 refine wp_cond_false (F.ev rfl) ?_
 repeat (first | refine ex_then ?_ | refine ex_block ?_ | refine wp_seq ?_ | refine wp_block ?_ | refine wp_skip ?_)
 refine wp_region_lit ?_
 refine lx_value (v := .int .i64 0) F (wanted_none rfl _) rfl (by rfl) (o_move (F.ev rfl)) fun a F => ?_
 refine lx_value (v := .bool false) F (wanted_none rfl _) rfl (by rfl) (o_bin (u := .int .i64 0) (v := .int .i64 0) (fun ρ hx hy => by simp only [execOp, hx, hy]; simp [go_sem]) (F.ev rfl) rfl) fun a F => ?_
 refine lx_nil ?_
 repeat (first | refine ex_then ?_ | refine ex_block ?_ | refine wp_seq ?_ | refine wp_block ?_ | refine wp_skip ?_)
 refine wp_cond_false (F.ev rfl) ?_
 repeat (first | refine ex_then ?_ | refine ex_block ?_ | refine wp_seq ?_ | refine wp_block ?_ | refine wp_skip ?_)
 refine wp_region_lit ?_
 refine lx_value (v := grp P Q G H) F (wanted_none rfl _) rfl (by rfl) (o_loadG (F.ev rfl) (HM.get 7 rfl)) fun a F => ?_
 refine lx_value (v := num x) F (wanted_none rfl _) rfl (by rfl) (o_loadN (F.ev rfl) (HM.get 1 rfl)) fun a F => ?_
 refine lx_value (v := num V) F (wanted_none rfl _) rfl (by rfl) (o_loadN (F.ev rfl) (HM.get 2 rfl)) fun a F => ?_
 refine lx_call F (wanted_none rfl _) rfl (by rfl) (run_callF Try.func16 (by kernel_rfl) (by rfl) (.cons (F.ev rfl) (.cons (F.ev rfl) (.cons (F.ev rfl) .nil))) _) (c3 _) fun a w z F => ?_
 replace HM := HM.on z
 clear z
 refine lx_value (v := .tuple #[num X, .int .i64 0]) F (wanted_none rfl _) rfl (by rfl) (o_move (F.ev rfl)) fun a F => ?_
 refine lx_value (v := num X) F (wanted_none rfl _) rfl (by rfl) (o_extract (F.ev rfl) rfl) fun a F => ?_
 refine lx_value (v := .int .i64 0) F (wanted_none rfl _) rfl (by rfl) (o_extract (F.ev rfl) rfl) fun a F => ?_
 refine lx_new F HM (wanted_none rfl _) rfl (by rfl) (o_allocN) fun a w go F HM => ?_
 refine lx_store F HM (wanted_none rfl _) rfl (k := 0) rfl (o_storeN (F.ev rfl) (F.ev rfl) (HM.get 0 rfl)) (M2 := [(go, 24, ncs X), (gz, 24, ncs y), (gx, 24, ncs x), (gy, 24, ncs V), (gs, 24, ncs r), (gd, 24, ncs D), (gb, 24, ncs N), (ga, 42, acs X Y), (gr, 35, gcs P Q G H)]) rfl fun w HM => ?_
 refine lx_value (v := .int .i64 0) F (wanted_none rfl _) rfl (by rfl) (o_assign (F.ev rfl)) fun a F => ?_
 refine lx_nil ?_
 repeat (first | refine ex_then ?_ | refine ex_block ?_ | refine wp_seq ?_ | refine wp_block ?_ | refine wp_skip ?_)
 try simp only [List.append_eq, List.cons_append, List.nil_append]
 refine sx_drawn [⟨0, 93, [], .val (.bool true), false⟩,
   ⟨1, 94, [0], .val (.bool true), true⟩,
   ⟨2, 95, [1], .val (.int .i64 0), true⟩,
   ⟨3, 96, [1, 2], .val (.bool true), true⟩,
   ⟨4, 97, [1, 3], .val (.bool true), true⟩,
   ⟨5, 98, [4], .val (.bool true), true⟩,
   ⟨6, 99, [5], .val (num X), true⟩,
   ⟨7, 100, [5, 6], .val (.pointer (some ⟨ga, 0, none⟩)), true⟩,
   ⟨8, 101, [5, 7], .val (num X), true⟩,
   ⟨9, 102, [5, 6, 8], .val (.bool true), true⟩,
   ⟨10, 103, [5, 9], .val (.bool true), true⟩,
   ⟨11, 104, [10], .val (.bool true), true⟩,
   ⟨12, 105, [11], .val (num x), true⟩,
   ⟨13, 106, [11, 12], .val (num y), true⟩,
   ⟨14, 107, [11, 12, 13], .val (.bool false), true⟩,
   ⟨15, 108, [11, 14], .val (.pointer (some ⟨ga, 0, none⟩)), true⟩,
   ⟨16, 109, [11, 15], .val (num X), true⟩,
   ⟨17, 110, [11, 16], .val (.pointer (some ⟨ga, 4, none⟩)), true⟩,
   ⟨18, 111, [11, 17], .val (num Y), true⟩,
   ⟨19, 112, [11, 16, 18], .val (.bool false), true⟩,
   ⟨20, 113, [11, 14, 19], .val (.bool true), true⟩,
   ⟨21, 114, [11, 20], .val (.bool true), true⟩] 1 F HM (by kernel_rfl) (by rfl) (by rfl) ?_ ?_ ?_ ?_ ?_ ?_ ?_
 ·kernel_rfl
 ·exact of_decide_eq_true (by kernel_rfl)
 ·(repeat refine all_cons ⟨_, by rfl, by rfl⟩ ?_); exact all_nil
 ·kernel_rfl
 ·(repeat (refine all_cons ?_ ?_; rotate_left)); exact all_nil
  ·exact core_pureAs _ (by rfl)
  ·exact coreS _ _ _ _ _ _ _ (by rfl) (by rfl) (wants_none) (fun ρ w kn hs => o_move (kn _ _ (kc 0 93)))
  ·exact coreS _ _ _ _ _ _ _ (by rfl) (by rfl) (wc 1 94 1 (kc 1 94)) (fun ρ w kn hs => o_move (kn _ _ (F.old (by rfl) rfl)))
  ·exact coreS _ _ _ _ _ _ _ (by rfl) (by rfl) (wc 1 94 1 (kc 1 94)) (fun ρ w kn hs => o_bin (u := .int .i64 0) (v := .int .i64 0) (fun ρ hx hy => by simp only [execOp, hx, hy]; simp [go_sem]) (kn _ _ (kc 2 95)) (kn _ _ (known_const _)))
  ·exact coreS _ _ _ _ _ _ _ (by rfl) (by rfl) (wants_none) (fun ρ w kn hs => o_pick (b := true) (r := .bool true) (kn _ _ (kc 1 94)) (kn _ _ (kc 3 96)) (kn _ _ (known_const _)) rfl)
  ·exact coreS _ _ _ _ _ _ _ (by rfl) (by rfl) (wants_none) (fun ρ w kn hs => o_move (kn _ _ (kc 4 97)))
  ·exact coreS _ _ _ _ _ _ _ (by rfl) (by rfl) (wc 5 98 5 (kc 5 98)) (fun ρ w kn hs => o_loadN (kn _ _ (F.old (by rfl) rfl)) (hs.get 0 rfl))
  ·exact coreS _ _ _ _ _ _ _ (by rfl) (by rfl) (wc 5 98 5 (kc 5 98)) (fun ρ w kn hs => o_idxA0 (kn _ _ (F.old (by rfl) rfl)) (kn _ _ (known_const _)))
  ·exact coreS _ _ _ _ _ _ _ (by rfl) (by rfl) (wc 5 98 5 (kc 5 98)) (fun ρ w kn hs => o_loadA0 (kn _ _ (kc 7 100)) (hs.get 7 rfl))
  ·exact coreS _ _ _ _ _ _ _ (by rfl) (by rfl) (wc 5 98 5 (kc 5 98)) (fun ρ w kn hs => o_eqlS (kn _ _ (kc 6 99)) (kn _ _ (kc 8 101)))
  ·exact coreS _ _ _ _ _ _ _ (by rfl) (by rfl) (wants_none) (fun ρ w kn hs => o_pick (b := true) (r := .bool true) (kn _ _ (kc 5 98)) (kn _ _ (kc 9 102)) (kn _ _ (known_const _)) rfl)
  ·exact coreS _ _ _ _ _ _ _ (by rfl) (by rfl) (wants_none) (fun ρ w kn hs => o_move (kn _ _ (kc 10 103)))
  ·exact coreS _ _ _ _ _ _ _ (by rfl) (by rfl) (wc 11 104 11 (kc 11 104)) (fun ρ w kn hs => o_loadN (kn _ _ (F.old (by rfl) rfl)) (hs.get 2 rfl))
  ·exact coreS _ _ _ _ _ _ _ (by rfl) (by rfl) (wc 11 104 11 (kc 11 104)) (fun ρ w kn hs => o_loadN (kn _ _ (F.old (by rfl) rfl)) (hs.get 1 rfl))
  ·exact coreS _ _ _ _ _ _ _ (by rfl) (by rfl) (wc 11 104 11 (kc 11 104)) (fun ρ w kn hs => o_eqlN hx hy e1 (kn _ _ (kc 12 105)) (kn _ _ (kc 13 106)))
  ·exact coreS _ _ _ _ _ _ _ (by rfl) (by rfl) (wc 11 104 11 (kc 11 104)) (fun ρ w kn hs => o_idxA0 (kn _ _ (F.old (by rfl) rfl)) (kn _ _ (known_const _)))
  ·exact coreS _ _ _ _ _ _ _ (by rfl) (by rfl) (wc 11 104 11 (kc 11 104)) (fun ρ w kn hs => o_loadA0 (kn _ _ (kc 15 108)) (hs.get 7 rfl))
  ·exact coreS _ _ _ _ _ _ _ (by rfl) (by rfl) (wc 11 104 11 (kc 11 104)) (fun ρ w kn hs => o_idxA1 (kn _ _ (F.old (by rfl) rfl)) (kn _ _ (known_const _)))
  ·exact coreS _ _ _ _ _ _ _ (by rfl) (by rfl) (wc 11 104 11 (kc 11 104)) (fun ρ w kn hs => o_loadA1 (kn _ _ (kc 17 110)) (hs.get 7 rfl))
  ·exact coreS _ _ _ _ _ _ _ (by rfl) (by rfl) (wc 11 104 11 (kc 11 104)) (fun ρ w kn hs => o_eqlN hX hY e2 (kn _ _ (kc 16 109)) (kn _ _ (kc 18 111)))
  ·exact coreS _ _ _ _ _ _ _ (by rfl) (by rfl) (wc 11 104 11 (kc 11 104)) (fun ρ w kn hs => o_bin (u := .bool false) (v := .bool false) (fun ρ hx hy => by simp only [execOp, hx, hy]; simp [go_sem]) (kn _ _ (kc 14 107)) (kn _ _ (kc 19 112)))
  ·exact coreS _ _ _ _ _ _ _ (by rfl) (by rfl) (wants_none) (fun ρ w kn hs => o_pick (b := true) (r := .bool true) (kn _ _ (kc 11 104)) (kn _ _ (kc 20 113)) (kn _ _ (known_const _)) rfl)
 ·(repeat (refine all_cons ?_ ?_; rotate_left)); exact all_nil
  ·exact fun _ => coreG_call _ 23 _ _ [] _ _ _ _ _ _ _ (by rfl) Try.func23 (by kernel_rfl) (by rfl) (by rfl) (wants_none) .nil (alive8_any)
  ·exact sA
  ·exact sA
  ·exact sA
  ·exact sA
  ·exact sA
  ·exact sA
  ·exact sA
  ·exact sA
  ·exact sA
  ·exact sA
  ·exact sA
  ·exact sA
  ·exact sA
  ·exact sA
  ·exact sA
  ·exact sA
  ·exact sA
  ·exact sA
  ·exact sA
  ·exact sA
  ·exact sA
 intro gs rs a w hgs hrs F HM
 obtain rfl := nl0 rs hrs
 clear hrs
 obtain rfl := nl0 gs hgs
 clear hgs
 refine sx_assign (i := 22) (d := 6) (x := .tmp 114) (v := .bool true) F (HM) (by kernel_rfl) (by rfl) (by rfl) (F.ev rfl) fun a F => ?_
 refine sx_done (by kernel_rfl) ?_ _
 repeat (first | refine ex_then ?_ | refine ex_block ?_ | refine wp_seq ?_ | refine wp_block ?_ | refine wp_skip ?_)
 refine wp_ret ?_
 repeat (first | refine ex_thenR ?_ | refine ex_blockR ?_)
 exact sx_ret F HM (res_tmp F rfl (s := 6) rfl)

theorem root_walk (P Q G H X Y N : Nat) (hP : P < 2 ^ 256) (hQ : Q < 2 ^ 256) (hX : X < 2 ^ 256) (hY : Y < 2 ^ 256) (hN : N < 2 ^ 256) (w : World) : Calls Try.prog 8 #[grp P Q G H, arr2 X Y, num N] w fun e w' => e = .returned (.bool true) ∧ Below w.heap.size w w' := by
 have I := fun A (hA : A < 2 ^ 256) b (h : inB P Q A = b) => (show ∀ w, Calls Try.prog 20 #[grp P Q G H, num A] w fun e w' => e = .returned (.bool b) ∧ Below w.heap.size w w' from fun w => h ▸ gin_any P Q G H A hP hQ hA w)
 by_cases hq1 : 1 < Q
 case neg => exact root_0 P Q G H X Y N hQ (cmpN_le (by omega)) w
 have hk := cmpN_pos hq1
 rcases hx : inB P Q X with _ | _
 ·exact root_1 P Q G H X Y N hQ hk (I X hX _ hx) w
 rcases hy : inB P Q Y with _ | _
 ·exact root_2 P Q G H X Y N hQ hk (I X hX _ hx) (I Y hY _ hy) w
 obtain ⟨⟨x0, xP⟩, xQ⟩ := inB_iff.mp hx
 obtain ⟨⟨y0, yP⟩, yQ⟩ := inB_iff.mp hy
 have h1 : 1 < P := by omega
 have hQ0 : 0 < Q := by omega
 have lt : ∀ n, n % P < P := fun n => Nat.mod_lt _ (by omega)
 obtain ⟨D, r, hD, hr, hdr, cd⟩ := div_ex N Q hN hQ (by omega)
 have hrv : N % Q = r := by rw [hdr, Nat.mul_comm, Nat.mul_add_mod, Nat.mod_eq_of_lt hr]
 have c1 := gexp_yes P Q G H X N hP hX hN (in_may hx)
 have c2 := gexp_yes P Q G H Y N hP hY hN (in_may hy)
 by_cases hg : Nat.gcd r Q = 1
 case neg => exact root_3 P Q G H X Y N D r 0 _ _ hQ hk (I X hX _ hx) (I Y hY _ hy) cd (minv_none r Q hQ hq1 hr hg) c1 c2 w
 obtain ⟨V, hV, hrV⟩ := inv_there r Q hq1 hg
 have ci := minv_yes r Q V hQ hq1 hr hV hrV
 have back : ∀ A, A < P → A ^ Q % P = 1 → (A ^ N % P) ^ V % P = A := fun A hA hAQ => by
  rw [← Nat.pow_mod, ← Nat.pow_mul, pow_red hAQ h1 (N * V), Nat.mul_mod, hrv, Nat.mod_eq_of_lt hV, hrV, Nat.pow_one, Nat.mod_eq_of_lt hA]
 have mX : mayB P (X ^ N % P) = true := in_may (in_of (Q := Q) h1 hQ0 (lt _) (by rw [← Nat.pow_mod, ← Nat.pow_mul, Nat.mul_comm, Nat.pow_mul, Nat.pow_mod, xQ, Nat.one_pow, Nat.mod_eq_of_lt h1]))
 have c3 := gexp_yes P Q G H (X ^ N % P) V hP (Nat.lt_trans (lt _) hP) (Nat.lt_trans hV hQ) mX
 rw [back X xP xQ] at c3
 by_cases hXY : X = Y
 ·exact root_4true P Q G H X Y N D r V _ _ hQ hk (I X hX _ hx) (I Y hY _ hy) cd ci c1 c2 c3 (Nat.lt_trans (lt _) hP) (Nat.lt_trans (lt _) hP) hX hY (decide_eq_true (by rw [hXY])) (decide_eq_true hXY) w
 ·exact root_4false P Q G H X Y N D r V _ _ hQ hk (I X hX _ hx) (I Y hY _ hy) cd ci c1 c2 c3 (Nat.lt_trans (lt _) hP) (Nat.lt_trans (lt _) hP) hX hY (decide_eq_false fun h => hXY (by rw [← back X xP xQ, h, back Y yP yQ])) (decide_eq_false hXY) w
end Go.Proofs.Ytbggihkigblnfaa
