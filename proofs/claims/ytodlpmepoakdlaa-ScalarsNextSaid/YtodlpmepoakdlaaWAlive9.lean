/-
  alive of layer 9, and what it calls.
-/
import Derived.Deep.Cut
import Derived.Test.YtodlpmepoakdlaaWSc3
import Derived.Test.YtodlpmepoakdlaaWShort
namespace Go.Proofs.Ytodlpmepoakdlaa
set_option maxRecDepth 100000
open Go.RowKit
set_option linter.unusedSimpArgs false
set_option linter.unusedVariables false
attribute [local go_sem ↓] Go.wp_at_zero Go.wp_at_succ

theorem of9_any (x : Nat) (hx : x < 18446744073709551616) (w : World) : Calls Try.prog 25 #[.int .u64 (x : Nat)] w fun e w' => e = .returned (num x) ∧ Below w.heap.size w w' := by
  refine sx_enter (args := [.int .u64 (x : Nat)]) Try.func25 rfl Try.ntmps25 (by rfl) fun a F HM => ?_
  repeat (first | refine ex_then ?_ | refine ex_block ?_ | refine wp_seq ?_ | refine wp_block ?_ | refine wp_skip ?_)
  refine wp_region_lit ?_
  refine lx_new F HM (wanted_none rfl _) rfl (by rfl) (o_allocN) fun a w go F HM => ?_
  refine lx_nil ?_
  repeat (first | refine ex_then ?_ | refine ex_block ?_ | refine wp_seq ?_ | refine wp_block ?_ | refine wp_skip ?_)
  refine wp_region_lit ?_
  refine lx_value (v := .int .u64 (x : Nat)) F (wanted_none rfl _) rfl (by rfl) (o_move (F.ev rfl)) fun a F => ?_
  refine lx_call F (wanted_none rfl _) rfl (by rfl) (run_callF Try.func32 (by kernel_rfl) (by rfl) (.cons (F.ev rfl) .nil) _) ((fun w => of_any x hx w) _) fun a w z F => ?_
  replace HM := HM.on z
  clear z
  refine lx_store F HM (wanted_none rfl _) rfl (k := 0) rfl (o_storeN (F.ev rfl) (F.ev rfl) (HM.get 0 rfl)) (M2 := [(go, 24, ncs x)]) rfl fun w HM => ?_
  refine lx_nil ?_
  repeat (first | refine ex_then ?_ | refine ex_block ?_ | refine wp_seq ?_ | refine wp_block ?_ | refine wp_skip ?_)
  refine wp_ret ?_
  repeat (first | refine ex_thenR ?_ | refine ex_blockR ?_)
  exact sx_ret F HM (res_N F (s := 2) rfl rfl (HM.get 0 rfl))
theorem is9_any (X : Nat) (hX : X < 18446744073709551616) (w : World) : Calls Try.prog 49 #[num X, .int .i64 0, .int .u64 (X : Nat)] w fun e w' => e = .returned (.bool true) ∧ Below w.heap.size w w' := by
  refine sx_enter (args := [num X, .int .i64 0, .int .u64 (X : Nat)]) Try.func49 rfl Try.ntmps49 (by rfl) fun a F HM => ?_
  repeat (first | refine ex_then ?_ | refine ex_block ?_ | refine wp_seq ?_ | refine wp_block ?_ | refine wp_skip ?_)
  refine wp_region_lit ?_
  refine lx_new F HM (wanted_none rfl _) rfl (by rfl) (o_boxN (F.ev rfl)) fun a w ga F HM => ?_
  refine lx_value (v := .bool false) F (wanted_none rfl _) rfl (by rfl) (o_assign rfl) fun a F => ?_
  refine lx_nil ?_
  repeat (first | refine ex_then ?_ | refine ex_block ?_ | refine wp_seq ?_ | refine wp_block ?_ | refine wp_skip ?_)
  try simp only [List.append_eq, List.cons_append, List.nil_append]
  refine sx_drawn [⟨0, 7, [], .val (.int .i64 0), true⟩,
      ⟨1, 8, [0], .val (.bool true), true⟩,
      ⟨2, 9, [1], .val (.bool true), true⟩,
      ⟨3, 10, [2], .val (num X), true⟩,
      ⟨4, 11, [2, 3], .val (.int .u64 (X : Nat)), true⟩,
      ⟨5, 12, [2, 4], .val (num X), false⟩,
      ⟨6, 13, [2, 3, 5], .val (.bool true), true⟩,
      ⟨7, 14, [2, 6], .val (.bool true), true⟩] 1 F HM (by kernel_rfl) (by rfl) (by rfl) ?_ ?_ ?_ ?_ ?_ ?_ ?_
  · kernel_rfl
  · exact of_decide_eq_true (by kernel_rfl)
  · exact all_cons ⟨_, by rfl, by rfl⟩ (all_cons ⟨_, by rfl, by rfl⟩ (all_cons ⟨_, by rfl, by rfl⟩ (all_cons ⟨_, by rfl, by rfl⟩ (all_cons ⟨_, by rfl, by rfl⟩ (all_cons ⟨_, by rfl, by rfl⟩ (all_cons ⟨_, by rfl, by rfl⟩ (all_cons ⟨_, by rfl, by rfl⟩ (all_nil))))))))
  · kernel_rfl
  · refine all_cons ?_ (all_cons ?_ (all_cons ?_ (all_cons ?_ (all_cons ?_ (all_cons ?_ (all_cons ?_ (all_cons ?_ (all_nil))))))))
    · exact coreS _ _ _ _ _ _ _ (by rfl) (by rfl) (wants_none) (fun ρ w kn hs => o_move (kn _ _ (F.old (by rfl) rfl)))
    · exact coreS _ _ _ _ _ _ _ (by rfl) (by rfl) (wants_none) (fun ρ w kn hs => o_bin (u := .int .i64 0) (v := .int .i64 0) (fun ρ hx hy => by simp only [execOp, hx, hy]; simp [go_sem]) (kn _ _ (known_core 0 7 _ _ (of_decide_eq_true (by rfl)) (by rfl) (by rfl) (by rfl))) (kn _ _ (known_const _)))
    · exact coreS _ _ _ _ _ _ _ (by rfl) (by rfl) (wants_none) (fun ρ w kn hs => o_move (kn _ _ (known_core 1 8 _ _ (of_decide_eq_true (by rfl)) (by rfl) (by rfl) (by rfl))))
    · exact coreS _ _ _ _ _ _ _ (by rfl) (by rfl) (wants_core 2 9 2 _ _ _ (by rfl) (by rfl) (by rfl) (known_core 2 9 _ _ (of_decide_eq_true (by rfl)) (by rfl) (by rfl) (by rfl)) _ (by rfl)) (fun ρ w kn hs => o_loadN (kn _ _ (F.old (by rfl) rfl)) (hs.get 0 rfl))
    · exact coreS _ _ _ _ _ _ _ (by rfl) (by rfl) (wants_core 2 9 2 _ _ _ (by rfl) (by rfl) (by rfl) (known_core 2 9 _ _ (of_decide_eq_true (by rfl)) (by rfl) (by rfl) (by rfl)) _ (by rfl)) (fun ρ w kn hs => o_move (kn _ _ (F.old (by rfl) rfl)))
    · exact core_pureAs _ (by rfl)
    · exact coreS _ _ _ _ _ _ _ (by rfl) (by rfl) (wants_core 2 9 2 _ _ _ (by rfl) (by rfl) (by rfl) (known_core 2 9 _ _ (of_decide_eq_true (by rfl)) (by rfl) (by rfl) (by rfl)) _ (by rfl)) (fun ρ w kn hs => o_eqlS (kn _ _ (known_core 3 10 _ _ (of_decide_eq_true (by rfl)) (by rfl) (by rfl) (by rfl))) (kn _ _ (known_core 5 12 _ _ (of_decide_eq_true (by rfl)) (by rfl) (by rfl) (by rfl))))
    · exact coreS _ _ _ _ _ _ _ (by rfl) (by rfl) (wants_none) (fun ρ w kn hs => o_pick (b := true) (r := .bool true) (kn _ _ (known_core 2 9 _ _ (of_decide_eq_true (by rfl)) (by rfl) (by rfl) (by rfl))) (kn _ _ (known_core 6 13 _ _ (of_decide_eq_true (by rfl)) (by rfl) (by rfl) (by rfl))) (kn _ _ (known_const _)) rfl)
  · refine all_cons ?_ (all_cons ?_ (all_cons ?_ (all_cons ?_ (all_cons ?_ (all_cons ?_ (all_cons ?_ (all_cons ?_ (all_nil))))))))
    · exact core_stepAs _ (by rfl)
    · exact core_stepAs _ (by rfl)
    · exact core_stepAs _ (by rfl)
    · exact core_stepAs _ (by rfl)
    · exact core_stepAs _ (by rfl)
    · exact fun _ => coreG_call _ 25 _ _ [.tmp 11] _ _ _ _ _ _ _ (by rfl) Try.func25 (by kernel_rfl) (by rfl) (by rfl) (wants_core 2 9 2 _ _ _ (by rfl) (by rfl) (by rfl) (known_core 2 9 _ _ (of_decide_eq_true (by rfl)) (by rfl) (by rfl) (by rfl)) _ (by rfl)) (.cons (known_core 4 11 _ _ (of_decide_eq_true (by rfl)) (by rfl) (by rfl) (by rfl)) .nil) ((fun w => of9_any X hX w))
    · exact core_stepAs _ (by rfl)
    · exact core_stepAs _ (by rfl)
  intro gs rs a w hgs hrs F HM
  obtain rfl := nl0 rs hrs
  clear hrs
  obtain rfl := nl0 gs hgs
  clear hgs
  refine sx_assign (i := 8) (d := 6) (x := .tmp 14) (v := .bool true) F (HM) (by kernel_rfl) (by rfl) (by rfl) (F.ev rfl) fun a F => ?_
  refine sx_done (by kernel_rfl) ?_ _
  repeat (first | refine ex_then ?_ | refine ex_block ?_ | refine wp_seq ?_ | refine wp_block ?_ | refine wp_skip ?_)
  refine wp_ret ?_
  repeat (first | refine ex_thenR ?_ | refine ex_blockR ?_)
  exact sx_ret F HM (res_tmp F rfl (s := 6) rfl)
theorem k9_add (w : World) : Calls Try.prog 14 #[grp 23 11 0 0, num 7, num 8] w fun e w' => e = .returned (.tuple #[num 4, .int .i64 0]) ∧ Below w.heap.size w w' := by
  have := sadd_yes 23 11 0 0 7 8 (by decide) (by decide) (by decide) (by decide) w
  rwa [show (7 + 8) % 11 = 4 from by decide] at this
theorem k9_sub (w : World) : Calls Try.prog 15 #[grp 23 11 0 0, num 2, num 5] w fun e w' => e = .returned (.tuple #[num 8, .int .i64 0]) ∧ Below w.heap.size w w' := by
  have := ssub_yes 23 11 0 0 2 5 (by decide) (by decide) (by decide) (by decide) w
  rwa [show (2 + 11 - 5) % 11 = 8 from by decide] at this
theorem k9_mul (w : World) : Calls Try.prog 16 #[grp 23 11 0 0, num 7, num 8] w fun e w' => e = .returned (.tuple #[num 1, .int .i64 0]) ∧ Below w.heap.size w w' := by
  have := smul_yes 23 11 0 0 7 8 (by decide) (by decide) (by decide) (by decide) w
  rwa [show 7 * 8 % 11 = 1 from by decide] at this
theorem k9_inv (w : World) : Calls Try.prog 17 #[grp 23 11 0 0, num 2] w fun e w' => e = .returned (.tuple #[num 6, .int .i64 0]) ∧ Below w.heap.size w w' := by
  exact sinv_yes 23 11 0 0 2 6 (by decide) (by decide) (by decide) (by decide) (by decide) w
theorem k9_inv0 (w : World) : Calls Try.prog 17 #[grp 23 11 0 0, num 0] w fun e w' => e = .returned (.tuple #[num 0, .int .i64 7]) ∧ Below w.heap.size w w' := by
  exact sinv_none 23 11 0 0 0 (by decide) (by decide) (by decide) (by decide) w
theorem k9_add0 (w : World) : Calls Try.prog 14 #[grp 23 11 0 0, num 11, num 0] w fun e w' => e = .returned (.tuple #[num 0, .int .i64 1]) ∧ Below w.heap.size w w' := by
  exact sadd_no 23 11 0 0 11 0 (by decide) (by decide) (by decide) (by decide) w
theorem k9_of14 (w : World) : Calls Try.prog 22 #[grp 23 11 0 0, .int .i64 14] w fun e w' => e = .returned (num 3) ∧ Below w.heap.size w w' := by
  have := sof_any 23 11 0 0 14 (by decide) (by decide) (by decide) w
  rwa [show sofN 11 14 = 3 from by decide] at this
theorem k9_of1 (w : World) : Calls Try.prog 22 #[grp 23 11 0 0, .int .i64 (-1)] w fun e w' => e = .returned (num 10) ∧ Below w.heap.size w w' := by
  have := sof_any 23 11 0 0 (-1) (by decide) (by decide) (by decide) w
  rwa [show sofN 11 (-1) = 10 from by decide] at this
theorem k9_of63 (w : World) : Calls Try.prog 22 #[grp 23 11 0 0, .int .i64 (-9223372036854775808)] w fun e w' => e = .returned (num 3) ∧ Below w.heap.size w w' := by
  have := sof_any 23 11 0 0 (-9223372036854775808) (by decide) (by decide) (by decide) w
  rwa [show sofN 11 (-9223372036854775808) = 3 from by decide] at this
theorem k9_of5 (w : World) : Calls Try.prog 22 #[grp 0 0 0 0, .int .i64 5] w fun e w' => e = .returned (num 0) ∧ Below w.heap.size w w' := by
  have := sof_any 0 0 0 0 5 (by decide) (by decide) (by decide) w
  rwa [show sofN 0 5 = 0 from by decide] at this
set_option maxRecDepth 100000 in
set_option maxHeartbeats 8000000 in
theorem alive9_any (w : World) : Calls Try.prog 26 #[] w fun e w' => e = .returned (.bool true) ∧ Below w.heap.size w w' := by
  refine sx_enter (args := []) Try.func26 rfl Try.ntmps26 (by rfl) fun a F HM => ?_
  repeat (first | refine ex_then ?_ | refine ex_block ?_ | refine wp_seq ?_ | refine wp_block ?_ | refine wp_skip ?_)
  refine wp_region_lit ?_
  refine lx_value (v := .bool false) F (wanted_none rfl _) rfl (by rfl) (o_assign rfl) fun a F => ?_
  refine lx_nil ?_
  repeat (first | refine ex_then ?_ | refine ex_block ?_ | refine wp_seq ?_ | refine wp_block ?_ | refine wp_skip ?_)
  refine wp_region_lit ?_
  refine lx_call F (wanted_none rfl _) rfl (by rfl) (run_callF Try.func25 (by kernel_rfl) (by rfl) (.cons rfl .nil) _) ((fun w => of9_any 23 (by decide) w) _) fun a w z F => ?_
  replace HM := HM.on z
  clear z
  refine lx_call F (wanted_none rfl _) rfl (by rfl) (run_callF Try.func25 (by kernel_rfl) (by rfl) (.cons rfl .nil) _) ((fun w => of9_any 11 (by decide) w) _) fun a w z F => ?_
  replace HM := HM.on z
  clear z
  refine lx_value (v := grp 23 11 0 0) F (wanted_none rfl _) rfl (by rfl) (o_buildG2 (F.ev rfl) (F.ev rfl)) fun a F => ?_
  refine lx_new F HM (wanted_none rfl _) rfl (by rfl) (o_allocG) fun a w gg F HM => ?_
  refine lx_store F HM (wanted_none rfl _) rfl (k := 0) rfl (o_storeG (F.ev rfl) (F.ev rfl) (HM.get 0 rfl)) (M2 := [(gg, 35, gcs 23 11 0 0)]) rfl fun w HM => ?_
  refine lx_nil ?_
  repeat (first | refine ex_then ?_ | refine ex_block ?_ | refine wp_seq ?_ | refine wp_block ?_ | refine wp_skip ?_)
  try simp only [List.append_eq, List.cons_append, List.nil_append]
  refine sx_drawn [⟨0, 18, [], .val (grp 23 11 0 0), true⟩,
      ⟨7, 2, [], .cell 24 (ncs 0), false⟩,
      ⟨1, 19, [0], .val (num 7), false⟩,
      ⟨2, 20, [2], .val (num 8), false⟩,
      ⟨3, 21, [0, 2, 3], .val (.tuple #[num 4, .int .i64 0]), false⟩,
      ⟨4, 17, [4], .val (.tuple #[num 4, .int .i64 0]), true⟩,
      ⟨5, 22, [5], .val (num 4), true⟩,
      ⟨6, 23, [5, 6], .val (.int .i64 0), true⟩] 2 F HM (by kernel_rfl) (by rfl) (by rfl) ?_ ?_ ?_ ?_ ?_ ?_ ?_
  · kernel_rfl
  · exact of_decide_eq_true (by kernel_rfl)
  · exact all_cons ⟨_, by rfl, by rfl⟩ (all_cons ⟨_, by rfl, by rfl⟩ (all_cons ⟨_, by rfl, by rfl⟩ (all_cons ⟨_, by rfl, by rfl⟩ (all_cons ⟨_, by rfl, by rfl⟩ (all_cons ⟨_, by rfl, by rfl⟩ (all_cons ⟨_, by rfl, by rfl⟩ (all_cons ⟨_, by rfl, by rfl⟩ (all_nil))))))))
  · kernel_rfl
  · refine all_cons ?_ (all_cons ?_ (all_cons ?_ (all_cons ?_ (all_cons ?_ (all_cons ?_ (all_cons ?_ (all_cons ?_ (all_nil))))))))
    · exact coreS _ _ _ _ _ _ _ (by rfl) (by rfl) (wants_none) (fun ρ w kn hs => o_loadG (kn _ _ (F.old (by rfl) rfl)) (hs.get 0 rfl))
    · exact core_pureAs _ (by rfl)
    · exact core_pureAs _ (by rfl)
    · exact core_pureAs _ (by rfl)
    · exact core_pureAs _ (by rfl)
    · exact coreS _ _ _ _ _ _ _ (by rfl) (by rfl) (wants_none) (fun ρ w kn hs => o_move (kn _ _ (known_core 4 21 _ _ (of_decide_eq_true (by rfl)) (by rfl) (by rfl) (by rfl))))
    · exact coreS _ _ _ _ _ _ _ (by rfl) (by rfl) (wants_none) (fun ρ w kn hs => o_extract (kn _ _ (known_core 5 17 _ _ (of_decide_eq_true (by rfl)) (by rfl) (by rfl) (by rfl))) rfl)
    · exact coreS _ _ _ _ _ _ _ (by rfl) (by rfl) (wants_none) (fun ρ w kn hs => o_extract (kn _ _ (known_core 5 17 _ _ (of_decide_eq_true (by rfl)) (by rfl) (by rfl) (by rfl))) rfl)
  · refine all_cons ?_ (all_cons ?_ (all_cons ?_ (all_cons ?_ (all_cons ?_ (all_cons ?_ (all_cons ?_ (all_cons ?_ (all_nil))))))))
    · exact core_stepAs _ (by rfl)
    · exact fun _ => core_new _ _ _ _ _ _ _ _ (by rfl) (by rfl) (Nat.le_refl _) (fun ρ w => o_allocN)
    · exact fun _ => coreG_call _ 25 _ _ [.const (.int .u64 7)] _ _ _ _ _ _ _ (by rfl) Try.func25 (by kernel_rfl) (by rfl) (by rfl) (wants_none) (.cons (known_const _) .nil) ((fun w => of9_any 7 (by decide) w))
    · exact fun _ => coreG_call _ 25 _ _ [.const (.int .u64 8)] _ _ _ _ _ _ _ (by rfl) Try.func25 (by kernel_rfl) (by rfl) (by rfl) (wants_none) (.cons (known_const _) .nil) ((fun w => of9_any 8 (by decide) w))
    · exact fun _ => coreG_call _ 14 _ _ [.tmp 18, .tmp 19, .tmp 20] _ _ _ _ _ _ _ (by rfl) Try.func14 (by kernel_rfl) (by rfl) (by rfl) (wants_none) (.cons (known_core 0 18 _ _ (of_decide_eq_true (by rfl)) (by rfl) (by rfl) (by rfl)) (.cons (known_core 2 19 _ _ (of_decide_eq_true (by rfl)) (by rfl) (by rfl) (by rfl)) (.cons (known_core 3 20 _ _ (of_decide_eq_true (by rfl)) (by rfl) (by rfl) (by rfl)) .nil))) (k9_add)
    · exact core_stepAs _ (by rfl)
    · exact core_stepAs _ (by rfl)
    · exact core_stepAs _ (by rfl)
  intro gs rs a w hgs hrs F HM
  obtain rfl := nl0 rs hrs
  clear hrs
  obtain ⟨ga, rfl⟩ := nl1 gs hgs
  clear hgs
  refine sx_store (i := 8) HM (by kernel_rfl) (by rfl) rfl rfl (k := 0) rfl (o_storeN (F.ev rfl) (F.ev rfl) (HM.get 0 rfl)) (M2 := [(ga, 24, ncs 4), (gg, 35, gcs 23 11 0 0)]) rfl (fun _ h => h.tail (A := [(ga, 24, ncs 4)])) fun w HM => ?_
  refine sx_assign (i := 9) (d := 3) (x := .tmp 23) (v := .int .i64 0) F (HM.tail (A := [(ga, 24, ncs 4)])) (by kernel_rfl) (by rfl) (by rfl) (F.ev rfl) fun a F => ?_
  refine sx_done (by kernel_rfl) ?_ _
  repeat (first | refine ex_then ?_ | refine ex_block ?_ | refine wp_seq ?_ | refine wp_block ?_ | refine wp_skip ?_)
  try simp only [List.append_eq, List.cons_append, List.nil_append]
  refine sx_drawn [⟨0, 25, [], .val (grp 23 11 0 0), true⟩,
      ⟨7, 4, [], .cell 24 (ncs 0), false⟩,
      ⟨1, 26, [0], .val (num 2), false⟩,
      ⟨2, 27, [2], .val (num 5), false⟩,
      ⟨3, 28, [0, 2, 3], .val (.tuple #[num 8, .int .i64 0]), false⟩,
      ⟨4, 24, [4], .val (.tuple #[num 8, .int .i64 0]), true⟩,
      ⟨5, 29, [5], .val (num 8), true⟩,
      ⟨6, 30, [5, 6], .val (.int .i64 0), true⟩] 2 F HM (by kernel_rfl) (by rfl) (by rfl) ?_ ?_ ?_ ?_ ?_ ?_ ?_
  · kernel_rfl
  · exact of_decide_eq_true (by kernel_rfl)
  · exact all_cons ⟨_, by rfl, by rfl⟩ (all_cons ⟨_, by rfl, by rfl⟩ (all_cons ⟨_, by rfl, by rfl⟩ (all_cons ⟨_, by rfl, by rfl⟩ (all_cons ⟨_, by rfl, by rfl⟩ (all_cons ⟨_, by rfl, by rfl⟩ (all_cons ⟨_, by rfl, by rfl⟩ (all_cons ⟨_, by rfl, by rfl⟩ (all_nil))))))))
  · kernel_rfl
  · refine all_cons ?_ (all_cons ?_ (all_cons ?_ (all_cons ?_ (all_cons ?_ (all_cons ?_ (all_cons ?_ (all_cons ?_ (all_nil))))))))
    · exact coreS _ _ _ _ _ _ _ (by rfl) (by rfl) (wants_none) (fun ρ w kn hs => o_loadG (kn _ _ (F.old (by rfl) rfl)) (hs.get 1 rfl))
    · exact core_pureAs _ (by rfl)
    · exact core_pureAs _ (by rfl)
    · exact core_pureAs _ (by rfl)
    · exact core_pureAs _ (by rfl)
    · exact coreS _ _ _ _ _ _ _ (by rfl) (by rfl) (wants_none) (fun ρ w kn hs => o_move (kn _ _ (known_core 4 28 _ _ (of_decide_eq_true (by rfl)) (by rfl) (by rfl) (by rfl))))
    · exact coreS _ _ _ _ _ _ _ (by rfl) (by rfl) (wants_none) (fun ρ w kn hs => o_extract (kn _ _ (known_core 5 24 _ _ (of_decide_eq_true (by rfl)) (by rfl) (by rfl) (by rfl))) rfl)
    · exact coreS _ _ _ _ _ _ _ (by rfl) (by rfl) (wants_none) (fun ρ w kn hs => o_extract (kn _ _ (known_core 5 24 _ _ (of_decide_eq_true (by rfl)) (by rfl) (by rfl) (by rfl))) rfl)
  · refine all_cons ?_ (all_cons ?_ (all_cons ?_ (all_cons ?_ (all_cons ?_ (all_cons ?_ (all_cons ?_ (all_cons ?_ (all_nil))))))))
    · exact core_stepAs _ (by rfl)
    · exact fun _ => core_new _ _ _ _ _ _ _ _ (by rfl) (by rfl) (Nat.le_refl _) (fun ρ w => o_allocN)
    · exact fun _ => coreG_call _ 25 _ _ [.const (.int .u64 2)] _ _ _ _ _ _ _ (by rfl) Try.func25 (by kernel_rfl) (by rfl) (by rfl) (wants_none) (.cons (known_const _) .nil) ((fun w => of9_any 2 (by decide) w))
    · exact fun _ => coreG_call _ 25 _ _ [.const (.int .u64 5)] _ _ _ _ _ _ _ (by rfl) Try.func25 (by kernel_rfl) (by rfl) (by rfl) (wants_none) (.cons (known_const _) .nil) ((fun w => of9_any 5 (by decide) w))
    · exact fun _ => coreG_call _ 15 _ _ [.tmp 25, .tmp 26, .tmp 27] _ _ _ _ _ _ _ (by rfl) Try.func15 (by kernel_rfl) (by rfl) (by rfl) (wants_none) (.cons (known_core 0 25 _ _ (of_decide_eq_true (by rfl)) (by rfl) (by rfl) (by rfl)) (.cons (known_core 2 26 _ _ (of_decide_eq_true (by rfl)) (by rfl) (by rfl) (by rfl)) (.cons (known_core 3 27 _ _ (of_decide_eq_true (by rfl)) (by rfl) (by rfl) (by rfl)) .nil))) (k9_sub)
    · exact core_stepAs _ (by rfl)
    · exact core_stepAs _ (by rfl)
    · exact core_stepAs _ (by rfl)
  intro gs rs a w hgs hrs F HM
  obtain rfl := nl0 rs hrs
  clear hrs
  obtain ⟨gb, rfl⟩ := nl1 gs hgs
  clear hgs
  refine sx_store (i := 8) HM (by kernel_rfl) (by rfl) rfl rfl (k := 0) rfl (o_storeN (F.ev rfl) (F.ev rfl) (HM.get 0 rfl)) (M2 := [(gb, 24, ncs 8), (ga, 24, ncs 4), (gg, 35, gcs 23 11 0 0)]) rfl (fun _ h => h.tail (A := [(gb, 24, ncs 8)])) fun w HM => ?_
  refine sx_assign (i := 9) (d := 5) (x := .tmp 30) (v := .int .i64 0) F (HM.tail (A := [(gb, 24, ncs 8)])) (by kernel_rfl) (by rfl) (by rfl) (F.ev rfl) fun a F => ?_
  refine sx_done (by kernel_rfl) ?_ _
  repeat (first | refine ex_then ?_ | refine ex_block ?_ | refine wp_seq ?_ | refine wp_block ?_ | refine wp_skip ?_)
  try simp only [List.append_eq, List.cons_append, List.nil_append]
  refine sx_drawn [⟨0, 32, [], .val (grp 23 11 0 0), true⟩,
      ⟨7, 6, [], .cell 24 (ncs 0), false⟩,
      ⟨1, 33, [0], .val (num 7), false⟩,
      ⟨2, 34, [2], .val (num 8), false⟩,
      ⟨3, 35, [0, 2, 3], .val (.tuple #[num 1, .int .i64 0]), false⟩,
      ⟨4, 31, [4], .val (.tuple #[num 1, .int .i64 0]), true⟩,
      ⟨5, 36, [5], .val (num 1), true⟩,
      ⟨6, 37, [5, 6], .val (.int .i64 0), true⟩] 2 F HM (by kernel_rfl) (by rfl) (by rfl) ?_ ?_ ?_ ?_ ?_ ?_ ?_
  · kernel_rfl
  · exact of_decide_eq_true (by kernel_rfl)
  · exact all_cons ⟨_, by rfl, by rfl⟩ (all_cons ⟨_, by rfl, by rfl⟩ (all_cons ⟨_, by rfl, by rfl⟩ (all_cons ⟨_, by rfl, by rfl⟩ (all_cons ⟨_, by rfl, by rfl⟩ (all_cons ⟨_, by rfl, by rfl⟩ (all_cons ⟨_, by rfl, by rfl⟩ (all_cons ⟨_, by rfl, by rfl⟩ (all_nil))))))))
  · kernel_rfl
  · refine all_cons ?_ (all_cons ?_ (all_cons ?_ (all_cons ?_ (all_cons ?_ (all_cons ?_ (all_cons ?_ (all_cons ?_ (all_nil))))))))
    · exact coreS _ _ _ _ _ _ _ (by rfl) (by rfl) (wants_none) (fun ρ w kn hs => o_loadG (kn _ _ (F.old (by rfl) rfl)) (hs.get 2 rfl))
    · exact core_pureAs _ (by rfl)
    · exact core_pureAs _ (by rfl)
    · exact core_pureAs _ (by rfl)
    · exact core_pureAs _ (by rfl)
    · exact coreS _ _ _ _ _ _ _ (by rfl) (by rfl) (wants_none) (fun ρ w kn hs => o_move (kn _ _ (known_core 4 35 _ _ (of_decide_eq_true (by rfl)) (by rfl) (by rfl) (by rfl))))
    · exact coreS _ _ _ _ _ _ _ (by rfl) (by rfl) (wants_none) (fun ρ w kn hs => o_extract (kn _ _ (known_core 5 31 _ _ (of_decide_eq_true (by rfl)) (by rfl) (by rfl) (by rfl))) rfl)
    · exact coreS _ _ _ _ _ _ _ (by rfl) (by rfl) (wants_none) (fun ρ w kn hs => o_extract (kn _ _ (known_core 5 31 _ _ (of_decide_eq_true (by rfl)) (by rfl) (by rfl) (by rfl))) rfl)
  · refine all_cons ?_ (all_cons ?_ (all_cons ?_ (all_cons ?_ (all_cons ?_ (all_cons ?_ (all_cons ?_ (all_cons ?_ (all_nil))))))))
    · exact core_stepAs _ (by rfl)
    · exact fun _ => core_new _ _ _ _ _ _ _ _ (by rfl) (by rfl) (Nat.le_refl _) (fun ρ w => o_allocN)
    · exact fun _ => coreG_call _ 25 _ _ [.const (.int .u64 7)] _ _ _ _ _ _ _ (by rfl) Try.func25 (by kernel_rfl) (by rfl) (by rfl) (wants_none) (.cons (known_const _) .nil) ((fun w => of9_any 7 (by decide) w))
    · exact fun _ => coreG_call _ 25 _ _ [.const (.int .u64 8)] _ _ _ _ _ _ _ (by rfl) Try.func25 (by kernel_rfl) (by rfl) (by rfl) (wants_none) (.cons (known_const _) .nil) ((fun w => of9_any 8 (by decide) w))
    · exact fun _ => coreG_call _ 16 _ _ [.tmp 32, .tmp 33, .tmp 34] _ _ _ _ _ _ _ (by rfl) Try.func16 (by kernel_rfl) (by rfl) (by rfl) (wants_none) (.cons (known_core 0 32 _ _ (of_decide_eq_true (by rfl)) (by rfl) (by rfl) (by rfl)) (.cons (known_core 2 33 _ _ (of_decide_eq_true (by rfl)) (by rfl) (by rfl) (by rfl)) (.cons (known_core 3 34 _ _ (of_decide_eq_true (by rfl)) (by rfl) (by rfl) (by rfl)) .nil))) (k9_mul)
    · exact core_stepAs _ (by rfl)
    · exact core_stepAs _ (by rfl)
    · exact core_stepAs _ (by rfl)
  intro gs rs a w hgs hrs F HM
  obtain rfl := nl0 rs hrs
  clear hrs
  obtain ⟨gc, rfl⟩ := nl1 gs hgs
  clear hgs
  refine sx_store (i := 8) HM (by kernel_rfl) (by rfl) rfl rfl (k := 0) rfl (o_storeN (F.ev rfl) (F.ev rfl) (HM.get 0 rfl)) (M2 := [(gc, 24, ncs 1), (gb, 24, ncs 8), (ga, 24, ncs 4), (gg, 35, gcs 23 11 0 0)]) rfl (fun _ h => h.tail (A := [(gc, 24, ncs 1)])) fun w HM => ?_
  refine sx_assign (i := 9) (d := 7) (x := .tmp 37) (v := .int .i64 0) F (HM.tail (A := [(gc, 24, ncs 1)])) (by kernel_rfl) (by rfl) (by rfl) (F.ev rfl) fun a F => ?_
  refine sx_done (by kernel_rfl) ?_ _
  repeat (first | refine ex_then ?_ | refine ex_block ?_ | refine wp_seq ?_ | refine wp_block ?_ | refine wp_skip ?_)
  try simp only [List.append_eq, List.cons_append, List.nil_append]
  refine sx_drawn [⟨0, 39, [], .val (grp 23 11 0 0), true⟩,
      ⟨6, 8, [], .cell 24 (ncs 0), false⟩,
      ⟨1, 40, [0], .val (num 2), false⟩,
      ⟨2, 41, [0, 2], .val (.tuple #[num 6, .int .i64 0]), false⟩,
      ⟨3, 38, [3], .val (.tuple #[num 6, .int .i64 0]), true⟩,
      ⟨4, 42, [4], .val (num 6), true⟩,
      ⟨5, 43, [4, 5], .val (.int .i64 0), true⟩] 2 F HM (by kernel_rfl) (by rfl) (by rfl) ?_ ?_ ?_ ?_ ?_ ?_ ?_
  · kernel_rfl
  · exact of_decide_eq_true (by kernel_rfl)
  · exact all_cons ⟨_, by rfl, by rfl⟩ (all_cons ⟨_, by rfl, by rfl⟩ (all_cons ⟨_, by rfl, by rfl⟩ (all_cons ⟨_, by rfl, by rfl⟩ (all_cons ⟨_, by rfl, by rfl⟩ (all_cons ⟨_, by rfl, by rfl⟩ (all_cons ⟨_, by rfl, by rfl⟩ (all_nil)))))))
  · kernel_rfl
  · refine all_cons ?_ (all_cons ?_ (all_cons ?_ (all_cons ?_ (all_cons ?_ (all_cons ?_ (all_cons ?_ (all_nil)))))))
    · exact coreS _ _ _ _ _ _ _ (by rfl) (by rfl) (wants_none) (fun ρ w kn hs => o_loadG (kn _ _ (F.old (by rfl) rfl)) (hs.get 3 rfl))
    · exact core_pureAs _ (by rfl)
    · exact core_pureAs _ (by rfl)
    · exact core_pureAs _ (by rfl)
    · exact coreS _ _ _ _ _ _ _ (by rfl) (by rfl) (wants_none) (fun ρ w kn hs => o_move (kn _ _ (known_core 3 41 _ _ (of_decide_eq_true (by rfl)) (by rfl) (by rfl) (by rfl))))
    · exact coreS _ _ _ _ _ _ _ (by rfl) (by rfl) (wants_none) (fun ρ w kn hs => o_extract (kn _ _ (known_core 4 38 _ _ (of_decide_eq_true (by rfl)) (by rfl) (by rfl) (by rfl))) rfl)
    · exact coreS _ _ _ _ _ _ _ (by rfl) (by rfl) (wants_none) (fun ρ w kn hs => o_extract (kn _ _ (known_core 4 38 _ _ (of_decide_eq_true (by rfl)) (by rfl) (by rfl) (by rfl))) rfl)
  · refine all_cons ?_ (all_cons ?_ (all_cons ?_ (all_cons ?_ (all_cons ?_ (all_cons ?_ (all_cons ?_ (all_nil)))))))
    · exact core_stepAs _ (by rfl)
    · exact fun _ => core_new _ _ _ _ _ _ _ _ (by rfl) (by rfl) (Nat.le_refl _) (fun ρ w => o_allocN)
    · exact fun _ => coreG_call _ 25 _ _ [.const (.int .u64 2)] _ _ _ _ _ _ _ (by rfl) Try.func25 (by kernel_rfl) (by rfl) (by rfl) (wants_none) (.cons (known_const _) .nil) ((fun w => of9_any 2 (by decide) w))
    · exact fun _ => coreG_call _ 17 _ _ [.tmp 39, .tmp 40] _ _ _ _ _ _ _ (by rfl) Try.func17 (by kernel_rfl) (by rfl) (by rfl) (wants_none) (.cons (known_core 0 39 _ _ (of_decide_eq_true (by rfl)) (by rfl) (by rfl) (by rfl)) (.cons (known_core 2 40 _ _ (of_decide_eq_true (by rfl)) (by rfl) (by rfl) (by rfl)) .nil)) (k9_inv)
    · exact core_stepAs _ (by rfl)
    · exact core_stepAs _ (by rfl)
    · exact core_stepAs _ (by rfl)
  intro gs rs a w hgs hrs F HM
  obtain rfl := nl0 rs hrs
  clear hrs
  obtain ⟨gd, rfl⟩ := nl1 gs hgs
  clear hgs
  refine sx_store (i := 7) HM (by kernel_rfl) (by rfl) rfl rfl (k := 0) rfl (o_storeN (F.ev rfl) (F.ev rfl) (HM.get 0 rfl)) (M2 := [(gd, 24, ncs 6), (gc, 24, ncs 1), (gb, 24, ncs 8), (ga, 24, ncs 4), (gg, 35, gcs 23 11 0 0)]) rfl (fun _ h => h.tail (A := [(gd, 24, ncs 6)])) fun w HM => ?_
  refine sx_assign (i := 8) (d := 9) (x := .tmp 43) (v := .int .i64 0) F (HM.tail (A := [(gd, 24, ncs 6)])) (by kernel_rfl) (by rfl) (by rfl) (F.ev rfl) fun a F => ?_
  refine sx_done (by kernel_rfl) ?_ _
  repeat (first | refine ex_then ?_ | refine ex_block ?_ | refine wp_seq ?_ | refine wp_block ?_ | refine wp_skip ?_)
  try simp only [List.append_eq, List.cons_append, List.nil_append]
  refine sx_drawn [⟨0, 45, [], .val (grp 23 11 0 0), true⟩,
      ⟨6, 10, [], .cell 24 (ncs 0), false⟩,
      ⟨1, 46, [0], .val (num 0), false⟩,
      ⟨2, 47, [0, 2], .val (.tuple #[num 0, .int .i64 7]), false⟩,
      ⟨3, 44, [3], .val (.tuple #[num 0, .int .i64 7]), true⟩,
      ⟨4, 48, [4], .val (num 0), true⟩,
      ⟨5, 49, [4, 5], .val (.int .i64 7), true⟩] 2 F HM (by kernel_rfl) (by rfl) (by rfl) ?_ ?_ ?_ ?_ ?_ ?_ ?_
  · kernel_rfl
  · exact of_decide_eq_true (by kernel_rfl)
  · exact all_cons ⟨_, by rfl, by rfl⟩ (all_cons ⟨_, by rfl, by rfl⟩ (all_cons ⟨_, by rfl, by rfl⟩ (all_cons ⟨_, by rfl, by rfl⟩ (all_cons ⟨_, by rfl, by rfl⟩ (all_cons ⟨_, by rfl, by rfl⟩ (all_cons ⟨_, by rfl, by rfl⟩ (all_nil)))))))
  · kernel_rfl
  · refine all_cons ?_ (all_cons ?_ (all_cons ?_ (all_cons ?_ (all_cons ?_ (all_cons ?_ (all_cons ?_ (all_nil)))))))
    · exact coreS _ _ _ _ _ _ _ (by rfl) (by rfl) (wants_none) (fun ρ w kn hs => o_loadG (kn _ _ (F.old (by rfl) rfl)) (hs.get 4 rfl))
    · exact core_pureAs _ (by rfl)
    · exact core_pureAs _ (by rfl)
    · exact core_pureAs _ (by rfl)
    · exact coreS _ _ _ _ _ _ _ (by rfl) (by rfl) (wants_none) (fun ρ w kn hs => o_move (kn _ _ (known_core 3 47 _ _ (of_decide_eq_true (by rfl)) (by rfl) (by rfl) (by rfl))))
    · exact coreS _ _ _ _ _ _ _ (by rfl) (by rfl) (wants_none) (fun ρ w kn hs => o_extract (kn _ _ (known_core 4 44 _ _ (of_decide_eq_true (by rfl)) (by rfl) (by rfl) (by rfl))) rfl)
    · exact coreS _ _ _ _ _ _ _ (by rfl) (by rfl) (wants_none) (fun ρ w kn hs => o_extract (kn _ _ (known_core 4 44 _ _ (of_decide_eq_true (by rfl)) (by rfl) (by rfl) (by rfl))) rfl)
  · refine all_cons ?_ (all_cons ?_ (all_cons ?_ (all_cons ?_ (all_cons ?_ (all_cons ?_ (all_cons ?_ (all_nil)))))))
    · exact core_stepAs _ (by rfl)
    · exact fun _ => core_new _ _ _ _ _ _ _ _ (by rfl) (by rfl) (Nat.le_refl _) (fun ρ w => o_allocN)
    · exact fun _ => coreG_call _ 25 _ _ [.const (.int .u64 0)] _ _ _ _ _ _ _ (by rfl) Try.func25 (by kernel_rfl) (by rfl) (by rfl) (wants_none) (.cons (known_const _) .nil) ((fun w => of9_any 0 (by decide) w))
    · exact fun _ => coreG_call _ 17 _ _ [.tmp 45, .tmp 46] _ _ _ _ _ _ _ (by rfl) Try.func17 (by kernel_rfl) (by rfl) (by rfl) (wants_none) (.cons (known_core 0 45 _ _ (of_decide_eq_true (by rfl)) (by rfl) (by rfl) (by rfl)) (.cons (known_core 2 46 _ _ (of_decide_eq_true (by rfl)) (by rfl) (by rfl) (by rfl)) .nil)) (k9_inv0)
    · exact core_stepAs _ (by rfl)
    · exact core_stepAs _ (by rfl)
    · exact core_stepAs _ (by rfl)
  intro gs rs a w hgs hrs F HM
  obtain rfl := nl0 rs hrs
  clear hrs
  obtain ⟨gi, rfl⟩ := nl1 gs hgs
  clear hgs
  refine sx_store (i := 7) HM (by kernel_rfl) (by rfl) rfl rfl (k := 0) rfl (o_storeN (F.ev rfl) (F.ev rfl) (HM.get 0 rfl)) (M2 := [(gi, 24, ncs 0), (gd, 24, ncs 6), (gc, 24, ncs 1), (gb, 24, ncs 8), (ga, 24, ncs 4), (gg, 35, gcs 23 11 0 0)]) rfl (fun _ h => h.tail (A := [(gi, 24, ncs 0)])) fun w HM => ?_
  refine sx_assign (i := 8) (d := 11) (x := .tmp 49) (v := .int .i64 7) F (HM.tail (A := [(gi, 24, ncs 0)])) (by kernel_rfl) (by rfl) (by rfl) (F.ev rfl) fun a F => ?_
  refine sx_done (by kernel_rfl) ?_ _
  repeat (first | refine ex_then ?_ | refine ex_block ?_ | refine wp_seq ?_ | refine wp_block ?_ | refine wp_skip ?_)
  try simp only [List.append_eq, List.cons_append, List.nil_append]
  refine sx_drawn [⟨0, 51, [], .val (grp 23 11 0 0), true⟩,
      ⟨7, 12, [], .cell 24 (ncs 0), false⟩,
      ⟨1, 52, [0], .val (num 11), false⟩,
      ⟨2, 53, [2], .val (num 0), false⟩,
      ⟨3, 54, [0, 2, 3], .val (.tuple #[num 0, .int .i64 1]), false⟩,
      ⟨4, 50, [4], .val (.tuple #[num 0, .int .i64 1]), true⟩,
      ⟨5, 55, [5], .val (num 0), true⟩,
      ⟨6, 56, [5, 6], .val (.int .i64 1), true⟩] 2 F HM (by kernel_rfl) (by rfl) (by rfl) ?_ ?_ ?_ ?_ ?_ ?_ ?_
  · kernel_rfl
  · exact of_decide_eq_true (by kernel_rfl)
  · exact all_cons ⟨_, by rfl, by rfl⟩ (all_cons ⟨_, by rfl, by rfl⟩ (all_cons ⟨_, by rfl, by rfl⟩ (all_cons ⟨_, by rfl, by rfl⟩ (all_cons ⟨_, by rfl, by rfl⟩ (all_cons ⟨_, by rfl, by rfl⟩ (all_cons ⟨_, by rfl, by rfl⟩ (all_cons ⟨_, by rfl, by rfl⟩ (all_nil))))))))
  · kernel_rfl
  · refine all_cons ?_ (all_cons ?_ (all_cons ?_ (all_cons ?_ (all_cons ?_ (all_cons ?_ (all_cons ?_ (all_cons ?_ (all_nil))))))))
    · exact coreS _ _ _ _ _ _ _ (by rfl) (by rfl) (wants_none) (fun ρ w kn hs => o_loadG (kn _ _ (F.old (by rfl) rfl)) (hs.get 5 rfl))
    · exact core_pureAs _ (by rfl)
    · exact core_pureAs _ (by rfl)
    · exact core_pureAs _ (by rfl)
    · exact core_pureAs _ (by rfl)
    · exact coreS _ _ _ _ _ _ _ (by rfl) (by rfl) (wants_none) (fun ρ w kn hs => o_move (kn _ _ (known_core 4 54 _ _ (of_decide_eq_true (by rfl)) (by rfl) (by rfl) (by rfl))))
    · exact coreS _ _ _ _ _ _ _ (by rfl) (by rfl) (wants_none) (fun ρ w kn hs => o_extract (kn _ _ (known_core 5 50 _ _ (of_decide_eq_true (by rfl)) (by rfl) (by rfl) (by rfl))) rfl)
    · exact coreS _ _ _ _ _ _ _ (by rfl) (by rfl) (wants_none) (fun ρ w kn hs => o_extract (kn _ _ (known_core 5 50 _ _ (of_decide_eq_true (by rfl)) (by rfl) (by rfl) (by rfl))) rfl)
  · refine all_cons ?_ (all_cons ?_ (all_cons ?_ (all_cons ?_ (all_cons ?_ (all_cons ?_ (all_cons ?_ (all_cons ?_ (all_nil))))))))
    · exact core_stepAs _ (by rfl)
    · exact fun _ => core_new _ _ _ _ _ _ _ _ (by rfl) (by rfl) (Nat.le_refl _) (fun ρ w => o_allocN)
    · exact fun _ => coreG_call _ 25 _ _ [.const (.int .u64 11)] _ _ _ _ _ _ _ (by rfl) Try.func25 (by kernel_rfl) (by rfl) (by rfl) (wants_none) (.cons (known_const _) .nil) ((fun w => of9_any 11 (by decide) w))
    · exact fun _ => coreG_call _ 25 _ _ [.const (.int .u64 0)] _ _ _ _ _ _ _ (by rfl) Try.func25 (by kernel_rfl) (by rfl) (by rfl) (wants_none) (.cons (known_const _) .nil) ((fun w => of9_any 0 (by decide) w))
    · exact fun _ => coreG_call _ 14 _ _ [.tmp 51, .tmp 52, .tmp 53] _ _ _ _ _ _ _ (by rfl) Try.func14 (by kernel_rfl) (by rfl) (by rfl) (wants_none) (.cons (known_core 0 51 _ _ (of_decide_eq_true (by rfl)) (by rfl) (by rfl) (by rfl)) (.cons (known_core 2 52 _ _ (of_decide_eq_true (by rfl)) (by rfl) (by rfl) (by rfl)) (.cons (known_core 3 53 _ _ (of_decide_eq_true (by rfl)) (by rfl) (by rfl) (by rfl)) .nil))) (k9_add0)
    · exact core_stepAs _ (by rfl)
    · exact core_stepAs _ (by rfl)
    · exact core_stepAs _ (by rfl)
  intro gs rs a w hgs hrs F HM
  obtain rfl := nl0 rs hrs
  clear hrs
  obtain ⟨gj, rfl⟩ := nl1 gs hgs
  clear hgs
  refine sx_store (i := 8) HM (by kernel_rfl) (by rfl) rfl rfl (k := 0) rfl (o_storeN (F.ev rfl) (F.ev rfl) (HM.get 0 rfl)) (M2 := [(gj, 24, ncs 0), (gi, 24, ncs 0), (gd, 24, ncs 6), (gc, 24, ncs 1), (gb, 24, ncs 8), (ga, 24, ncs 4), (gg, 35, gcs 23 11 0 0)]) rfl (fun _ h => h.tail (A := [(gj, 24, ncs 0)])) fun w HM => ?_
  refine sx_assign (i := 9) (d := 13) (x := .tmp 56) (v := .int .i64 1) F (HM.tail (A := [(gj, 24, ncs 0)])) (by kernel_rfl) (by rfl) (by rfl) (F.ev rfl) fun a F => ?_
  refine sx_done (by kernel_rfl) ?_ _
  repeat (first | refine ex_then ?_ | refine ex_block ?_ | refine wp_seq ?_ | refine wp_block ?_ | refine wp_skip ?_)
  refine wp_region_lit ?_
  refine lx_value (v := num 4) F (wanted_none rfl _) rfl (by rfl) (o_loadN (F.ev rfl) (HM.get 5 rfl)) fun a F => ?_
  refine lx_value (v := .int .i64 0) F (wanted_none rfl _) rfl (by rfl) (o_move (F.ev rfl)) fun a F => ?_
  refine lx_call F (wanted_none rfl _) rfl (by rfl) (run_callF Try.func49 (by kernel_rfl) (by rfl) (.cons (F.ev rfl) (.cons (F.ev rfl) (.cons rfl .nil))) _) ((fun w => is9_any 4 (by decide) w) _) fun a w z F => ?_
  replace HM := HM.on z
  clear z
  refine lx_value (v := .bool true) F (wanted_none rfl _) rfl (by rfl) (o_move (F.ev rfl)) fun a F => ?_
  refine lx_value (v := num 8) F (F.want (t := 60) (c := true) rfl rfl rfl (by rfl) rfl) rfl (by rfl) (o_loadN (F.ev rfl) (HM.get 4 rfl)) fun a F => ?_
  refine lx_value (v := .int .i64 0) F (F.want (t := 60) (c := true) rfl rfl rfl (by rfl) rfl) rfl (by rfl) (o_move (F.ev rfl)) fun a F => ?_
  refine lx_call F (F.want (t := 60) (c := true) rfl rfl rfl (by rfl) rfl) rfl (by rfl) (run_callF Try.func49 (by kernel_rfl) (by rfl) (.cons (F.ev rfl) (.cons (F.ev rfl) (.cons rfl .nil))) _) ((fun w => is9_any 8 (by decide) w) _) fun a w z F => ?_
  replace HM := HM.on z
  clear z
  refine lx_value (v := .bool true) F (wanted_none rfl _) rfl (by rfl) (o_pick (b := true) (r := .bool true) (F.ev rfl) (F.ev rfl) rfl rfl) fun a F => ?_
  refine lx_value (v := .bool true) F (wanted_none rfl _) rfl (by rfl) (o_move (F.ev rfl)) fun a F => ?_
  refine lx_value (v := num 1) F (F.want (t := 65) (c := true) rfl rfl rfl (by rfl) rfl) rfl (by rfl) (o_loadN (F.ev rfl) (HM.get 3 rfl)) fun a F => ?_
  refine lx_value (v := .int .i64 0) F (F.want (t := 65) (c := true) rfl rfl rfl (by rfl) rfl) rfl (by rfl) (o_move (F.ev rfl)) fun a F => ?_
  refine lx_call F (F.want (t := 65) (c := true) rfl rfl rfl (by rfl) rfl) rfl (by rfl) (run_callF Try.func49 (by kernel_rfl) (by rfl) (.cons (F.ev rfl) (.cons (F.ev rfl) (.cons rfl .nil))) _) ((fun w => is9_any 1 (by decide) w) _) fun a w z F => ?_
  replace HM := HM.on z
  clear z
  refine lx_value (v := .bool true) F (wanted_none rfl _) rfl (by rfl) (o_pick (b := true) (r := .bool true) (F.ev rfl) (F.ev rfl) rfl rfl) fun a F => ?_
  refine lx_value (v := .bool true) F (wanted_none rfl _) rfl (by rfl) (o_move (F.ev rfl)) fun a F => ?_
  refine lx_value (v := num 6) F (F.want (t := 70) (c := true) rfl rfl rfl (by rfl) rfl) rfl (by rfl) (o_loadN (F.ev rfl) (HM.get 2 rfl)) fun a F => ?_
  refine lx_value (v := .int .i64 0) F (F.want (t := 70) (c := true) rfl rfl rfl (by rfl) rfl) rfl (by rfl) (o_move (F.ev rfl)) fun a F => ?_
  refine lx_call F (F.want (t := 70) (c := true) rfl rfl rfl (by rfl) rfl) rfl (by rfl) (run_callF Try.func49 (by kernel_rfl) (by rfl) (.cons (F.ev rfl) (.cons (F.ev rfl) (.cons rfl .nil))) _) ((fun w => is9_any 6 (by decide) w) _) fun a w z F => ?_
  replace HM := HM.on z
  clear z
  refine lx_value (v := .bool true) F (wanted_none rfl _) rfl (by rfl) (o_pick (b := true) (r := .bool true) (F.ev rfl) (F.ev rfl) rfl rfl) fun a F => ?_
  refine lx_value (v := .bool true) F (wanted_none rfl _) rfl (by rfl) (o_move (F.ev rfl)) fun a F => ?_
  refine lx_value (v := .int .i64 7) F (F.want (t := 75) (c := true) rfl rfl rfl (by rfl) rfl) rfl (by rfl) (o_move (F.ev rfl)) fun a F => ?_
  refine lx_value (v := .bool true) F (F.want (t := 75) (c := true) rfl rfl rfl (by rfl) rfl) rfl (by rfl) (o_bin (u := .int .i64 7) (v := .int .i64 7) (fun ρ hx hy => by simp only [execOp, hx, hy]; simp [go_sem]) (F.ev rfl) rfl) fun a F => ?_
  refine lx_value (v := .bool true) F (wanted_none rfl _) rfl (by rfl) (o_pick (b := true) (r := .bool true) (F.ev rfl) (F.ev rfl) rfl rfl) fun a F => ?_
  refine lx_value (v := .bool true) F (wanted_none rfl _) rfl (by rfl) (o_move (F.ev rfl)) fun a F => ?_
  refine lx_value (v := .int .i64 1) F (F.want (t := 79) (c := true) rfl rfl rfl (by rfl) rfl) rfl (by rfl) (o_move (F.ev rfl)) fun a F => ?_
  refine lx_value (v := .bool true) F (F.want (t := 79) (c := true) rfl rfl rfl (by rfl) rfl) rfl (by rfl) (o_bin (u := .int .i64 1) (v := .int .i64 1) (fun ρ hx hy => by simp only [execOp, hx, hy]; simp [go_sem]) (F.ev rfl) rfl) fun a F => ?_
  refine lx_value (v := .bool true) F (wanted_none rfl _) rfl (by rfl) (o_pick (b := true) (r := .bool true) (F.ev rfl) (F.ev rfl) rfl rfl) fun a F => ?_
  refine lx_value (v := .bool true) F (wanted_none rfl _) rfl (by rfl) (o_move (F.ev rfl)) fun a F => ?_
  refine lx_value (v := grp 23 11 0 0) F (F.want (t := 83) (c := true) rfl rfl rfl (by rfl) rfl) rfl (by rfl) (o_loadG (F.ev rfl) (HM.get 6 rfl)) fun a F => ?_
  refine lx_call F (F.want (t := 83) (c := true) rfl rfl rfl (by rfl) rfl) rfl (by rfl) (run_callF Try.func22 (by kernel_rfl) (by rfl) (.cons (F.ev rfl) (.cons rfl .nil)) _) (k9_of14 _) fun a w z F => ?_
  replace HM := HM.on z
  clear z
  refine lx_call F (F.want (t := 83) (c := true) rfl rfl rfl (by rfl) rfl) rfl (by rfl) (run_callF Try.func25 (by kernel_rfl) (by rfl) (.cons rfl .nil) _) ((fun w => of9_any 3 (by decide) w) _) fun a w z F => ?_
  replace HM := HM.on z
  clear z
  refine lx_value (v := .bool true) F (F.want (t := 83) (c := true) rfl rfl rfl (by rfl) rfl) rfl (by rfl) (o_eqlS (F.ev rfl) (F.ev rfl)) fun a F => ?_
  refine lx_value (v := .bool true) F (wanted_none rfl _) rfl (by rfl) (o_pick (b := true) (r := .bool true) (F.ev rfl) (F.ev rfl) rfl rfl) fun a F => ?_
  refine lx_value (v := .bool true) F (wanted_none rfl _) rfl (by rfl) (o_move (F.ev rfl)) fun a F => ?_
  refine lx_value (v := grp 23 11 0 0) F (F.want (t := 89) (c := true) rfl rfl rfl (by rfl) rfl) rfl (by rfl) (o_loadG (F.ev rfl) (HM.get 6 rfl)) fun a F => ?_
  refine lx_call F (F.want (t := 89) (c := true) rfl rfl rfl (by rfl) rfl) rfl (by rfl) (run_callF Try.func22 (by kernel_rfl) (by rfl) (.cons (F.ev rfl) (.cons rfl .nil)) _) (k9_of1 _) fun a w z F => ?_
  replace HM := HM.on z
  clear z
  refine lx_call F (F.want (t := 89) (c := true) rfl rfl rfl (by rfl) rfl) rfl (by rfl) (run_callF Try.func25 (by kernel_rfl) (by rfl) (.cons rfl .nil) _) ((fun w => of9_any 10 (by decide) w) _) fun a w z F => ?_
  replace HM := HM.on z
  clear z
  refine lx_value (v := .bool true) F (F.want (t := 89) (c := true) rfl rfl rfl (by rfl) rfl) rfl (by rfl) (o_eqlS (F.ev rfl) (F.ev rfl)) fun a F => ?_
  refine lx_value (v := .bool true) F (wanted_none rfl _) rfl (by rfl) (o_pick (b := true) (r := .bool true) (F.ev rfl) (F.ev rfl) rfl rfl) fun a F => ?_
  refine lx_value (v := .bool true) F (wanted_none rfl _) rfl (by rfl) (o_move (F.ev rfl)) fun a F => ?_
  refine lx_value (v := grp 23 11 0 0) F (F.want (t := 95) (c := true) rfl rfl rfl (by rfl) rfl) rfl (by rfl) (o_loadG (F.ev rfl) (HM.get 6 rfl)) fun a F => ?_
  refine lx_call F (F.want (t := 95) (c := true) rfl rfl rfl (by rfl) rfl) rfl (by rfl) (run_callF Try.func22 (by kernel_rfl) (by rfl) (.cons (F.ev rfl) (.cons rfl .nil)) _) (k9_of63 _) fun a w z F => ?_
  replace HM := HM.on z
  clear z
  refine lx_call F (F.want (t := 95) (c := true) rfl rfl rfl (by rfl) rfl) rfl (by rfl) (run_callF Try.func25 (by kernel_rfl) (by rfl) (.cons rfl .nil) _) ((fun w => of9_any 3 (by decide) w) _) fun a w z F => ?_
  replace HM := HM.on z
  clear z
  refine lx_value (v := .bool true) F (F.want (t := 95) (c := true) rfl rfl rfl (by rfl) rfl) rfl (by rfl) (o_eqlS (F.ev rfl) (F.ev rfl)) fun a F => ?_
  refine lx_value (v := .bool true) F (wanted_none rfl _) rfl (by rfl) (o_pick (b := true) (r := .bool true) (F.ev rfl) (F.ev rfl) rfl rfl) fun a F => ?_
  refine lx_value (v := .bool true) F (wanted_none rfl _) rfl (by rfl) (o_move (F.ev rfl)) fun a F => ?_
  refine lx_value (v := grp 0 0 0 0) F (F.want (t := 101) (c := true) rfl rfl rfl (by rfl) rfl) rfl (by rfl) (o_buildG0) fun a F => ?_
  refine lx_call F (F.want (t := 101) (c := true) rfl rfl rfl (by rfl) rfl) rfl (by rfl) (run_callF Try.func22 (by kernel_rfl) (by rfl) (.cons (F.ev rfl) (.cons rfl .nil)) _) (k9_of5 _) fun a w z F => ?_
  replace HM := HM.on z
  clear z
  refine lx_call F (F.want (t := 101) (c := true) rfl rfl rfl (by rfl) rfl) rfl (by rfl) (run_callF Try.func25 (by kernel_rfl) (by rfl) (.cons rfl .nil) _) ((fun w => of9_any 0 (by decide) w) _) fun a w z F => ?_
  replace HM := HM.on z
  clear z
  refine lx_value (v := .bool true) F (F.want (t := 101) (c := true) rfl rfl rfl (by rfl) rfl) rfl (by rfl) (o_eqlS (F.ev rfl) (F.ev rfl)) fun a F => ?_
  refine lx_value (v := .bool true) F (wanted_none rfl _) rfl (by rfl) (o_pick (b := true) (r := .bool true) (F.ev rfl) (F.ev rfl) rfl rfl) fun a F => ?_
  refine lx_value (v := .bool true) F (wanted_none rfl _) rfl (by rfl) (o_assign (F.ev rfl)) fun a F => ?_
  refine lx_nil ?_
  repeat (first | refine ex_then ?_ | refine ex_block ?_ | refine wp_seq ?_ | refine wp_block ?_ | refine wp_skip ?_)
  refine wp_ret ?_
  repeat (first | refine ex_thenR ?_ | refine ex_blockR ?_)
  exact sx_ret F HM (res_tmp F rfl (s := 0) rfl)
end Go.Proofs.Ytodlpmepoakdlaa
