/-
  ScalarsUndo, ScalarsParts: walked.
-/
import Derived.Deep.Cut
import Derived.Test.YtodlpmepoakdlaaWAlive9
import Derived.Test.YtodlpmepoakdlaaWShort
namespace Go.Proofs.Ytodlpmepoakdlaa
set_option maxRecDepth 100000
open Go.RowKit
set_option linter.unusedSimpArgs false
set_option linter.unusedVariables false
attribute [local go_sem ↓] Go.wp_at_zero Go.wp_at_succ

set_option maxRecDepth 100000 in
set_option maxHeartbeats 8000000 in
theorem undo_a (P Q G H A B : Nat)
    (hQ : Q < 2 ^ 256)
    (hA : A < 2 ^ 256)
    (hB : B < 2 ^ 256)
    (ha : 0 ≤ cmpN A Q)
    (w : World) : Calls Try.prog 7 #[grp P Q G H, num A, num B] w fun e w' => e = .returned (.bool true) ∧ Below w.heap.size w w' := by
  refine sx_enter (args := [grp P Q G H, num A, num B]) Try.func7 rfl Try.ntmps7 (by rfl) fun a F HM => ?_
  repeat (first | refine ex_then ?_ | refine ex_block ?_ | refine wp_seq ?_ | refine wp_block ?_ | refine wp_skip ?_)
  refine wp_region_lit ?_
  refine lx_new F HM (wanted_none rfl _) rfl (by rfl) (o_boxG (F.ev rfl)) fun a w gg F HM => ?_
  refine lx_new F HM (wanted_none rfl _) rfl (by rfl) (o_boxN (F.ev rfl)) fun a w ga F HM => ?_
  refine lx_new F HM (wanted_none rfl _) rfl (by rfl) (o_boxN (F.ev rfl)) fun a w gb F HM => ?_
  refine lx_value (v := .bool false) F (wanted_none rfl _) rfl (by rfl) (o_assign rfl) fun a F => ?_
  refine lx_nil ?_
  repeat (first | refine ex_then ?_ | refine ex_block ?_ | refine wp_seq ?_ | refine wp_block ?_ | refine wp_skip ?_)
  try simp only [List.append_eq, List.cons_append, List.nil_append]
  refine sx_drawn [⟨0, 17, [], .val (num A), true⟩,
      ⟨1, 18, [0], .val (.pointer (some ⟨gg, 4, none⟩)), true⟩,
      ⟨2, 19, [1], .val (num Q), true⟩,
      ⟨3, 20, [0, 2], .val (.int .i64 (cmpN A Q)), false⟩,
      ⟨4, 21, [3], .val (.bool true), true⟩,
      ⟨5, 22, [4], .val (.bool true), true⟩,
      ⟨6, 23, [5], .val undef, true⟩,
      ⟨7, 24, [5, 6], .val undef, true⟩,
      ⟨8, 25, [5, 7], .val undef, true⟩,
      ⟨9, 26, [5, 6, 8], .val undef, true⟩,
      ⟨10, 27, [5, 9], .val undef, true⟩,
      ⟨11, 28, [5, 10], .val (.bool true), true⟩,
      ⟨12, 29, [11], .val (.bool true), true⟩,
      ⟨13, 30, [12], .val undef, true⟩,
      ⟨14, 31, [12, 13], .val undef, true⟩,
      ⟨15, 32, [12, 14], .val undef, true⟩,
      ⟨16, 33, [12, 14, 15], .val undef, true⟩,
      ⟨17, 34, [12, 16], .val undef, true⟩,
      ⟨18, 35, [12, 17], .val (.bool true), true⟩] 0 F HM (by kernel_rfl) (by rfl) (by rfl) ?_ ?_ ?_ ?_ ?_ ?_ ?_
  · kernel_rfl
  · exact of_decide_eq_true (by kernel_rfl)
  · exact all_cons ⟨_, by rfl, by rfl⟩ (all_cons ⟨_, by rfl, by rfl⟩ (all_cons ⟨_, by rfl, by rfl⟩ (all_cons ⟨_, by rfl, by rfl⟩ (all_cons ⟨_, by rfl, by rfl⟩ (all_cons ⟨_, by rfl, by rfl⟩ (all_cons ⟨_, by rfl, by rfl⟩ (all_cons ⟨_, by rfl, by rfl⟩ (all_cons ⟨_, by rfl, by rfl⟩ (all_cons ⟨_, by rfl, by rfl⟩ (all_cons ⟨_, by rfl, by rfl⟩ (all_cons ⟨_, by rfl, by rfl⟩ (all_cons ⟨_, by rfl, by rfl⟩ (all_cons ⟨_, by rfl, by rfl⟩ (all_cons ⟨_, by rfl, by rfl⟩ (all_cons ⟨_, by rfl, by rfl⟩ (all_cons ⟨_, by rfl, by rfl⟩ (all_cons ⟨_, by rfl, by rfl⟩ (all_cons ⟨_, by rfl, by rfl⟩ (all_nil)))))))))))))))))))
  · kernel_rfl
  · refine all_cons ?_ (all_cons ?_ (all_cons ?_ (all_cons ?_ (all_cons ?_ (all_cons ?_ (all_cons ?_ (all_cons ?_ (all_cons ?_ (all_cons ?_ (all_cons ?_ (all_cons ?_ (all_cons ?_ (all_cons ?_ (all_cons ?_ (all_cons ?_ (all_cons ?_ (all_cons ?_ (all_cons ?_ (all_nil)))))))))))))))))))
    · exact coreS _ _ _ _ _ _ _ (by rfl) (by rfl) (wants_none) (fun ρ w kn hs => o_loadN (kn _ _ (F.old (by rfl) rfl)) (hs.get 1 rfl))
    · exact coreS _ _ _ _ _ _ _ (by rfl) (by rfl) (wants_none) (fun ρ w kn hs => o_fieldG1 (kn _ _ (F.old (by rfl) rfl)))
    · exact coreS _ _ _ _ _ _ _ (by rfl) (by rfl) (wants_none) (fun ρ w kn hs => o_loadG1 (kn _ _ (known_core 1 18 _ _ (of_decide_eq_true (by rfl)) (by rfl) (by rfl) (by rfl))) (hs.get 2 rfl))
    · exact core_pureAs _ (by rfl)
    · exact coreS _ _ _ _ _ _ _ (by rfl) (by rfl) (wants_none) (fun ρ w kn hs => o_bin (u := .int .i64 (cmpN A Q)) (v := .int .i64 0) (fun ρ hx hy => by simp only [execOp, hx, hy]; simp [go_sem]; exact ha) (kn _ _ (known_core 3 20 _ _ (of_decide_eq_true (by rfl)) (by rfl) (by rfl) (by rfl))) (kn _ _ (known_const _)))
    · exact coreS _ _ _ _ _ _ _ (by rfl) (by rfl) (wants_none) (fun ρ w kn hs => o_move (kn _ _ (known_core 4 21 _ _ (of_decide_eq_true (by rfl)) (by rfl) (by rfl) (by rfl))))
    · exact coreG_skip _ _ _ _ _ _ (by rfl) (by rfl) (wants_core 5 22 5 _ _ _ (by rfl) (by rfl) (by rfl) (known_core 5 22 _ _ (of_decide_eq_true (by rfl)) (by rfl) (by rfl) (by rfl)) _ (by rfl))
    · exact coreG_skip _ _ _ _ _ _ (by rfl) (by rfl) (wants_core 5 22 5 _ _ _ (by rfl) (by rfl) (by rfl) (known_core 5 22 _ _ (of_decide_eq_true (by rfl)) (by rfl) (by rfl) (by rfl)) _ (by rfl))
    · exact coreG_skip _ _ _ _ _ _ (by rfl) (by rfl) (wants_core 5 22 5 _ _ _ (by rfl) (by rfl) (by rfl) (known_core 5 22 _ _ (of_decide_eq_true (by rfl)) (by rfl) (by rfl) (by rfl)) _ (by rfl))
    · exact coreG_skip _ _ _ _ _ _ (by rfl) (by rfl) (wants_core 5 22 5 _ _ _ (by rfl) (by rfl) (by rfl) (known_core 5 22 _ _ (of_decide_eq_true (by rfl)) (by rfl) (by rfl) (by rfl)) _ (by rfl))
    · exact coreG_skip _ _ _ _ _ _ (by rfl) (by rfl) (wants_core 5 22 5 _ _ _ (by rfl) (by rfl) (by rfl) (known_core 5 22 _ _ (of_decide_eq_true (by rfl)) (by rfl) (by rfl) (by rfl)) _ (by rfl))
    · exact coreS _ _ _ _ _ _ _ (by rfl) (by rfl) (wants_none) (fun ρ w kn hs => o_pick (b := true) (r := .bool true) (kn _ _ (known_core 5 22 _ _ (of_decide_eq_true (by rfl)) (by rfl) (by rfl) (by rfl))) (kn _ _ (known_const _)) (kn _ _ (known_core 10 27 _ _ (of_decide_eq_true (by rfl)) (by rfl) (by rfl) (by rfl))) rfl)
    · exact coreS _ _ _ _ _ _ _ (by rfl) (by rfl) (wants_none) (fun ρ w kn hs => o_move (kn _ _ (known_core 11 28 _ _ (of_decide_eq_true (by rfl)) (by rfl) (by rfl) (by rfl))))
    · exact coreG_skip _ _ _ _ _ _ (by rfl) (by rfl) (wants_core 12 29 12 _ _ _ (by rfl) (by rfl) (by rfl) (known_core 12 29 _ _ (of_decide_eq_true (by rfl)) (by rfl) (by rfl) (by rfl)) _ (by rfl))
    · exact coreG_skip _ _ _ _ _ _ (by rfl) (by rfl) (wants_core 12 29 12 _ _ _ (by rfl) (by rfl) (by rfl) (known_core 12 29 _ _ (of_decide_eq_true (by rfl)) (by rfl) (by rfl) (by rfl)) _ (by rfl))
    · exact coreG_skip _ _ _ _ _ _ (by rfl) (by rfl) (wants_core 12 29 12 _ _ _ (by rfl) (by rfl) (by rfl) (known_core 12 29 _ _ (of_decide_eq_true (by rfl)) (by rfl) (by rfl) (by rfl)) _ (by rfl))
    · exact coreG_skip _ _ _ _ _ _ (by rfl) (by rfl) (wants_core 12 29 12 _ _ _ (by rfl) (by rfl) (by rfl) (known_core 12 29 _ _ (of_decide_eq_true (by rfl)) (by rfl) (by rfl) (by rfl)) _ (by rfl))
    · exact coreG_skip _ _ _ _ _ _ (by rfl) (by rfl) (wants_core 12 29 12 _ _ _ (by rfl) (by rfl) (by rfl) (known_core 12 29 _ _ (of_decide_eq_true (by rfl)) (by rfl) (by rfl) (by rfl)) _ (by rfl))
    · exact coreS _ _ _ _ _ _ _ (by rfl) (by rfl) (wants_none) (fun ρ w kn hs => o_pick (b := true) (r := .bool true) (kn _ _ (known_core 12 29 _ _ (of_decide_eq_true (by rfl)) (by rfl) (by rfl) (by rfl))) (kn _ _ (known_const _)) (kn _ _ (known_core 17 34 _ _ (of_decide_eq_true (by rfl)) (by rfl) (by rfl) (by rfl))) rfl)
  · refine all_cons ?_ (all_cons ?_ (all_cons ?_ (all_cons ?_ (all_cons ?_ (all_cons ?_ (all_cons ?_ (all_cons ?_ (all_cons ?_ (all_cons ?_ (all_cons ?_ (all_cons ?_ (all_cons ?_ (all_cons ?_ (all_cons ?_ (all_cons ?_ (all_cons ?_ (all_cons ?_ (all_cons ?_ (all_nil)))))))))))))))))))
    · exact core_stepAs _ (by rfl)
    · exact core_stepAs _ (by rfl)
    · exact core_stepAs _ (by rfl)
    · exact fun _ => coreG_call _ 24 _ _ [.tmp 17, .tmp 19] _ _ _ _ _ _ _ (by rfl) Try.func24 (by kernel_rfl) (by rfl) (by rfl) (wants_none) (.cons (known_core 0 17 _ _ (of_decide_eq_true (by rfl)) (by rfl) (by rfl) (by rfl)) (.cons (known_core 2 19 _ _ (of_decide_eq_true (by rfl)) (by rfl) (by rfl) (by rfl)) .nil)) ((fun w => cmp_any A Q hA hQ w))
    · exact core_stepAs _ (by rfl)
    · exact core_stepAs _ (by rfl)
    · exact core_stepAs _ (by rfl)
    · exact core_stepAs _ (by rfl)
    · exact core_stepAs _ (by rfl)
    · exact core_stepAs _ (by rfl)
    · exact core_stepAs _ (by rfl)
    · exact core_stepAs _ (by rfl)
    · exact core_stepAs _ (by rfl)
    · exact core_stepAs _ (by rfl)
    · exact core_stepAs _ (by rfl)
    · exact core_stepAs _ (by rfl)
    · exact core_stepAs _ (by rfl)
    · exact core_stepAs _ (by rfl)
    · exact core_stepAs _ (by rfl)
  intro gs rs a w hgs hrs F HM
  obtain rfl := nl0 rs hrs
  clear hrs
  obtain rfl := nl0 gs hgs
  clear hgs
  refine sx_done (by kernel_rfl) ?_ _
  repeat (first | refine ex_then ?_ | refine ex_block ?_ | refine wp_seq ?_ | refine wp_block ?_ | refine wp_skip ?_)
  refine wp_cond_true (F.ev rfl) ?_
  repeat (first | refine ex_then ?_ | refine ex_block ?_ | refine wp_seq ?_ | refine wp_block ?_ | refine wp_skip ?_)
  refine wp_region_lit ?_
  refine lx_call F (wanted_none rfl _) rfl (by rfl) (run_callF Try.func26 (by kernel_rfl) (by rfl) .nil _) (alive9_any _) fun a w z F => ?_
  replace HM := HM.on z
  clear z
  refine lx_value (v := .bool true) F (wanted_none rfl _) rfl (by rfl) (o_assign (F.ev rfl)) fun a F => ?_
  refine lx_nil ?_
  repeat (first | refine ex_then ?_ | refine ex_block ?_ | refine wp_seq ?_ | refine wp_block ?_ | refine wp_skip ?_)
  refine wp_ret ?_
  repeat (first | refine ex_thenR ?_ | refine ex_blockR ?_)
  exact sx_ret F HM (res_tmp F rfl (s := 6) rfl)

set_option maxRecDepth 100000 in
set_option maxHeartbeats 8000000 in
theorem undo_b (P Q G H A B : Nat)
    (hQ : Q < 2 ^ 256)
    (hA : A < 2 ^ 256)
    (hB : B < 2 ^ 256)
    (ha : cmpN A Q < 0)
    (hb : 0 ≤ cmpN B Q)
    (w : World) : Calls Try.prog 7 #[grp P Q G H, num A, num B] w fun e w' => e = .returned (.bool true) ∧ Below w.heap.size w w' := by
  refine sx_enter (args := [grp P Q G H, num A, num B]) Try.func7 rfl Try.ntmps7 (by rfl) fun a F HM => ?_
  repeat (first | refine ex_then ?_ | refine ex_block ?_ | refine wp_seq ?_ | refine wp_block ?_ | refine wp_skip ?_)
  refine wp_region_lit ?_
  refine lx_new F HM (wanted_none rfl _) rfl (by rfl) (o_boxG (F.ev rfl)) fun a w gg F HM => ?_
  refine lx_new F HM (wanted_none rfl _) rfl (by rfl) (o_boxN (F.ev rfl)) fun a w ga F HM => ?_
  refine lx_new F HM (wanted_none rfl _) rfl (by rfl) (o_boxN (F.ev rfl)) fun a w gb F HM => ?_
  refine lx_value (v := .bool false) F (wanted_none rfl _) rfl (by rfl) (o_assign rfl) fun a F => ?_
  refine lx_nil ?_
  repeat (first | refine ex_then ?_ | refine ex_block ?_ | refine wp_seq ?_ | refine wp_block ?_ | refine wp_skip ?_)
  try simp only [List.append_eq, List.cons_append, List.nil_append]
  refine sx_drawn [⟨0, 17, [], .val (num A), true⟩,
      ⟨1, 18, [0], .val (.pointer (some ⟨gg, 4, none⟩)), true⟩,
      ⟨2, 19, [1], .val (num Q), true⟩,
      ⟨3, 20, [0, 2], .val (.int .i64 (cmpN A Q)), false⟩,
      ⟨4, 21, [3], .val (.bool false), true⟩,
      ⟨5, 22, [4], .val (.bool false), true⟩,
      ⟨6, 23, [5], .val (num B), true⟩,
      ⟨7, 24, [5, 6], .val (.pointer (some ⟨gg, 4, none⟩)), true⟩,
      ⟨8, 25, [5, 7], .val (num Q), true⟩,
      ⟨9, 26, [5, 6, 8], .val (.int .i64 (cmpN B Q)), false⟩,
      ⟨10, 27, [5, 9], .val (.bool true), true⟩,
      ⟨11, 28, [5, 10], .val (.bool true), true⟩,
      ⟨12, 29, [11], .val (.bool true), true⟩,
      ⟨13, 30, [12], .val undef, true⟩,
      ⟨14, 31, [12, 13], .val undef, true⟩,
      ⟨15, 32, [12, 14], .val undef, true⟩,
      ⟨16, 33, [12, 14, 15], .val undef, true⟩,
      ⟨17, 34, [12, 16], .val undef, true⟩,
      ⟨18, 35, [12, 17], .val (.bool true), true⟩] 0 F HM (by kernel_rfl) (by rfl) (by rfl) ?_ ?_ ?_ ?_ ?_ ?_ ?_
  · kernel_rfl
  · exact of_decide_eq_true (by kernel_rfl)
  · exact all_cons ⟨_, by rfl, by rfl⟩ (all_cons ⟨_, by rfl, by rfl⟩ (all_cons ⟨_, by rfl, by rfl⟩ (all_cons ⟨_, by rfl, by rfl⟩ (all_cons ⟨_, by rfl, by rfl⟩ (all_cons ⟨_, by rfl, by rfl⟩ (all_cons ⟨_, by rfl, by rfl⟩ (all_cons ⟨_, by rfl, by rfl⟩ (all_cons ⟨_, by rfl, by rfl⟩ (all_cons ⟨_, by rfl, by rfl⟩ (all_cons ⟨_, by rfl, by rfl⟩ (all_cons ⟨_, by rfl, by rfl⟩ (all_cons ⟨_, by rfl, by rfl⟩ (all_cons ⟨_, by rfl, by rfl⟩ (all_cons ⟨_, by rfl, by rfl⟩ (all_cons ⟨_, by rfl, by rfl⟩ (all_cons ⟨_, by rfl, by rfl⟩ (all_cons ⟨_, by rfl, by rfl⟩ (all_cons ⟨_, by rfl, by rfl⟩ (all_nil)))))))))))))))))))
  · kernel_rfl
  · refine all_cons ?_ (all_cons ?_ (all_cons ?_ (all_cons ?_ (all_cons ?_ (all_cons ?_ (all_cons ?_ (all_cons ?_ (all_cons ?_ (all_cons ?_ (all_cons ?_ (all_cons ?_ (all_cons ?_ (all_cons ?_ (all_cons ?_ (all_cons ?_ (all_cons ?_ (all_cons ?_ (all_cons ?_ (all_nil)))))))))))))))))))
    · exact coreS _ _ _ _ _ _ _ (by rfl) (by rfl) (wants_none) (fun ρ w kn hs => o_loadN (kn _ _ (F.old (by rfl) rfl)) (hs.get 1 rfl))
    · exact coreS _ _ _ _ _ _ _ (by rfl) (by rfl) (wants_none) (fun ρ w kn hs => o_fieldG1 (kn _ _ (F.old (by rfl) rfl)))
    · exact coreS _ _ _ _ _ _ _ (by rfl) (by rfl) (wants_none) (fun ρ w kn hs => o_loadG1 (kn _ _ (known_core 1 18 _ _ (of_decide_eq_true (by rfl)) (by rfl) (by rfl) (by rfl))) (hs.get 2 rfl))
    · exact core_pureAs _ (by rfl)
    · exact coreS _ _ _ _ _ _ _ (by rfl) (by rfl) (wants_none) (fun ρ w kn hs => o_bin (u := .int .i64 (cmpN A Q)) (v := .int .i64 0) (fun ρ hx hy => by simp only [execOp, hx, hy]; simp [go_sem]; exact ha) (kn _ _ (known_core 3 20 _ _ (of_decide_eq_true (by rfl)) (by rfl) (by rfl) (by rfl))) (kn _ _ (known_const _)))
    · exact coreS _ _ _ _ _ _ _ (by rfl) (by rfl) (wants_none) (fun ρ w kn hs => o_move (kn _ _ (known_core 4 21 _ _ (of_decide_eq_true (by rfl)) (by rfl) (by rfl) (by rfl))))
    · exact coreS _ _ _ _ _ _ _ (by rfl) (by rfl) (wants_core 5 22 5 _ _ _ (by rfl) (by rfl) (by rfl) (known_core 5 22 _ _ (of_decide_eq_true (by rfl)) (by rfl) (by rfl) (by rfl)) _ (by rfl)) (fun ρ w kn hs => o_loadN (kn _ _ (F.old (by rfl) rfl)) (hs.get 0 rfl))
    · exact coreS _ _ _ _ _ _ _ (by rfl) (by rfl) (wants_core 5 22 5 _ _ _ (by rfl) (by rfl) (by rfl) (known_core 5 22 _ _ (of_decide_eq_true (by rfl)) (by rfl) (by rfl) (by rfl)) _ (by rfl)) (fun ρ w kn hs => o_fieldG1 (kn _ _ (F.old (by rfl) rfl)))
    · exact coreS _ _ _ _ _ _ _ (by rfl) (by rfl) (wants_core 5 22 5 _ _ _ (by rfl) (by rfl) (by rfl) (known_core 5 22 _ _ (of_decide_eq_true (by rfl)) (by rfl) (by rfl) (by rfl)) _ (by rfl)) (fun ρ w kn hs => o_loadG1 (kn _ _ (known_core 7 24 _ _ (of_decide_eq_true (by rfl)) (by rfl) (by rfl) (by rfl))) (hs.get 2 rfl))
    · exact core_pureAs _ (by rfl)
    · exact coreS _ _ _ _ _ _ _ (by rfl) (by rfl) (wants_core 5 22 5 _ _ _ (by rfl) (by rfl) (by rfl) (known_core 5 22 _ _ (of_decide_eq_true (by rfl)) (by rfl) (by rfl) (by rfl)) _ (by rfl)) (fun ρ w kn hs => o_bin (u := .int .i64 (cmpN B Q)) (v := .int .i64 0) (fun ρ hx hy => by simp only [execOp, hx, hy]; simp [go_sem]; exact hb) (kn _ _ (known_core 9 26 _ _ (of_decide_eq_true (by rfl)) (by rfl) (by rfl) (by rfl))) (kn _ _ (known_const _)))
    · exact coreS _ _ _ _ _ _ _ (by rfl) (by rfl) (wants_none) (fun ρ w kn hs => o_pick (b := false) (r := .bool true) (kn _ _ (known_core 5 22 _ _ (of_decide_eq_true (by rfl)) (by rfl) (by rfl) (by rfl))) (kn _ _ (known_const _)) (kn _ _ (known_core 10 27 _ _ (of_decide_eq_true (by rfl)) (by rfl) (by rfl) (by rfl))) rfl)
    · exact coreS _ _ _ _ _ _ _ (by rfl) (by rfl) (wants_none) (fun ρ w kn hs => o_move (kn _ _ (known_core 11 28 _ _ (of_decide_eq_true (by rfl)) (by rfl) (by rfl) (by rfl))))
    · exact coreG_skip _ _ _ _ _ _ (by rfl) (by rfl) (wants_core 12 29 12 _ _ _ (by rfl) (by rfl) (by rfl) (known_core 12 29 _ _ (of_decide_eq_true (by rfl)) (by rfl) (by rfl) (by rfl)) _ (by rfl))
    · exact coreG_skip _ _ _ _ _ _ (by rfl) (by rfl) (wants_core 12 29 12 _ _ _ (by rfl) (by rfl) (by rfl) (known_core 12 29 _ _ (of_decide_eq_true (by rfl)) (by rfl) (by rfl) (by rfl)) _ (by rfl))
    · exact coreG_skip _ _ _ _ _ _ (by rfl) (by rfl) (wants_core 12 29 12 _ _ _ (by rfl) (by rfl) (by rfl) (known_core 12 29 _ _ (of_decide_eq_true (by rfl)) (by rfl) (by rfl) (by rfl)) _ (by rfl))
    · exact coreG_skip _ _ _ _ _ _ (by rfl) (by rfl) (wants_core 12 29 12 _ _ _ (by rfl) (by rfl) (by rfl) (known_core 12 29 _ _ (of_decide_eq_true (by rfl)) (by rfl) (by rfl) (by rfl)) _ (by rfl))
    · exact coreG_skip _ _ _ _ _ _ (by rfl) (by rfl) (wants_core 12 29 12 _ _ _ (by rfl) (by rfl) (by rfl) (known_core 12 29 _ _ (of_decide_eq_true (by rfl)) (by rfl) (by rfl) (by rfl)) _ (by rfl))
    · exact coreS _ _ _ _ _ _ _ (by rfl) (by rfl) (wants_none) (fun ρ w kn hs => o_pick (b := true) (r := .bool true) (kn _ _ (known_core 12 29 _ _ (of_decide_eq_true (by rfl)) (by rfl) (by rfl) (by rfl))) (kn _ _ (known_const _)) (kn _ _ (known_core 17 34 _ _ (of_decide_eq_true (by rfl)) (by rfl) (by rfl) (by rfl))) rfl)
  · refine all_cons ?_ (all_cons ?_ (all_cons ?_ (all_cons ?_ (all_cons ?_ (all_cons ?_ (all_cons ?_ (all_cons ?_ (all_cons ?_ (all_cons ?_ (all_cons ?_ (all_cons ?_ (all_cons ?_ (all_cons ?_ (all_cons ?_ (all_cons ?_ (all_cons ?_ (all_cons ?_ (all_cons ?_ (all_nil)))))))))))))))))))
    · exact core_stepAs _ (by rfl)
    · exact core_stepAs _ (by rfl)
    · exact core_stepAs _ (by rfl)
    · exact fun _ => coreG_call _ 24 _ _ [.tmp 17, .tmp 19] _ _ _ _ _ _ _ (by rfl) Try.func24 (by kernel_rfl) (by rfl) (by rfl) (wants_none) (.cons (known_core 0 17 _ _ (of_decide_eq_true (by rfl)) (by rfl) (by rfl) (by rfl)) (.cons (known_core 2 19 _ _ (of_decide_eq_true (by rfl)) (by rfl) (by rfl) (by rfl)) .nil)) ((fun w => cmp_any A Q hA hQ w))
    · exact core_stepAs _ (by rfl)
    · exact core_stepAs _ (by rfl)
    · exact core_stepAs _ (by rfl)
    · exact core_stepAs _ (by rfl)
    · exact core_stepAs _ (by rfl)
    · exact fun _ => coreG_call _ 24 _ _ [.tmp 23, .tmp 25] _ _ _ _ _ _ _ (by rfl) Try.func24 (by kernel_rfl) (by rfl) (by rfl) (wants_core 5 22 5 _ _ _ (by rfl) (by rfl) (by rfl) (known_core 5 22 _ _ (of_decide_eq_true (by rfl)) (by rfl) (by rfl) (by rfl)) _ (by rfl)) (.cons (known_core 6 23 _ _ (of_decide_eq_true (by rfl)) (by rfl) (by rfl) (by rfl)) (.cons (known_core 8 25 _ _ (of_decide_eq_true (by rfl)) (by rfl) (by rfl) (by rfl)) .nil)) ((fun w => cmp_any B Q hB hQ w))
    · exact core_stepAs _ (by rfl)
    · exact core_stepAs _ (by rfl)
    · exact core_stepAs _ (by rfl)
    · exact core_stepAs _ (by rfl)
    · exact core_stepAs _ (by rfl)
    · exact core_stepAs _ (by rfl)
    · exact core_stepAs _ (by rfl)
    · exact core_stepAs _ (by rfl)
    · exact core_stepAs _ (by rfl)
  intro gs rs a w hgs hrs F HM
  obtain rfl := nl0 rs hrs
  clear hrs
  obtain rfl := nl0 gs hgs
  clear hgs
  refine sx_done (by kernel_rfl) ?_ _
  repeat (first | refine ex_then ?_ | refine ex_block ?_ | refine wp_seq ?_ | refine wp_block ?_ | refine wp_skip ?_)
  refine wp_cond_true (F.ev rfl) ?_
  repeat (first | refine ex_then ?_ | refine ex_block ?_ | refine wp_seq ?_ | refine wp_block ?_ | refine wp_skip ?_)
  refine wp_region_lit ?_
  refine lx_call F (wanted_none rfl _) rfl (by rfl) (run_callF Try.func26 (by kernel_rfl) (by rfl) .nil _) (alive9_any _) fun a w z F => ?_
  replace HM := HM.on z
  clear z
  refine lx_value (v := .bool true) F (wanted_none rfl _) rfl (by rfl) (o_assign (F.ev rfl)) fun a F => ?_
  refine lx_nil ?_
  repeat (first | refine ex_then ?_ | refine ex_block ?_ | refine wp_seq ?_ | refine wp_block ?_ | refine wp_skip ?_)
  refine wp_ret ?_
  repeat (first | refine ex_thenR ?_ | refine ex_blockR ?_)
  exact sx_ret F HM (res_tmp F rfl (s := 6) rfl)

set_option maxRecDepth 100000 in
set_option maxHeartbeats 8000000 in
theorem undo_q (P Q G H A B : Nat)
    (hQ : Q < 2 ^ 256)
    (hA : A < 2 ^ 256)
    (hB : B < 2 ^ 256)
    (ha : cmpN A Q < 0)
    (hb : cmpN B Q < 0)
    (hk : cmpN Q 1 ≤ 0)
    (w : World) : Calls Try.prog 7 #[grp P Q G H, num A, num B] w fun e w' => e = .returned (.bool true) ∧ Below w.heap.size w w' := by
  refine sx_enter (args := [grp P Q G H, num A, num B]) Try.func7 rfl Try.ntmps7 (by rfl) fun a F HM => ?_
  repeat (first | refine ex_then ?_ | refine ex_block ?_ | refine wp_seq ?_ | refine wp_block ?_ | refine wp_skip ?_)
  refine wp_region_lit ?_
  refine lx_new F HM (wanted_none rfl _) rfl (by rfl) (o_boxG (F.ev rfl)) fun a w gg F HM => ?_
  refine lx_new F HM (wanted_none rfl _) rfl (by rfl) (o_boxN (F.ev rfl)) fun a w ga F HM => ?_
  refine lx_new F HM (wanted_none rfl _) rfl (by rfl) (o_boxN (F.ev rfl)) fun a w gb F HM => ?_
  refine lx_value (v := .bool false) F (wanted_none rfl _) rfl (by rfl) (o_assign rfl) fun a F => ?_
  refine lx_nil ?_
  repeat (first | refine ex_then ?_ | refine ex_block ?_ | refine wp_seq ?_ | refine wp_block ?_ | refine wp_skip ?_)
  try simp only [List.append_eq, List.cons_append, List.nil_append]
  refine sx_drawn [⟨0, 17, [], .val (num A), true⟩,
      ⟨1, 18, [0], .val (.pointer (some ⟨gg, 4, none⟩)), true⟩,
      ⟨2, 19, [1], .val (num Q), true⟩,
      ⟨3, 20, [0, 2], .val (.int .i64 (cmpN A Q)), false⟩,
      ⟨4, 21, [3], .val (.bool false), true⟩,
      ⟨5, 22, [4], .val (.bool false), true⟩,
      ⟨6, 23, [5], .val (num B), true⟩,
      ⟨7, 24, [5, 6], .val (.pointer (some ⟨gg, 4, none⟩)), true⟩,
      ⟨8, 25, [5, 7], .val (num Q), true⟩,
      ⟨9, 26, [5, 6, 8], .val (.int .i64 (cmpN B Q)), false⟩,
      ⟨10, 27, [5, 9], .val (.bool false), true⟩,
      ⟨11, 28, [5, 10], .val (.bool false), true⟩,
      ⟨12, 29, [11], .val (.bool false), true⟩,
      ⟨13, 30, [12], .val (.pointer (some ⟨gg, 4, none⟩)), true⟩,
      ⟨14, 31, [12, 13], .val (num Q), true⟩,
      ⟨15, 32, [12, 14], .val (num 1), false⟩,
      ⟨16, 33, [12, 14, 15], .val (.int .i64 (cmpN Q 1)), false⟩,
      ⟨17, 34, [12, 16], .val (.bool true), true⟩,
      ⟨18, 35, [12, 17], .val (.bool true), true⟩] 0 F HM (by kernel_rfl) (by rfl) (by rfl) ?_ ?_ ?_ ?_ ?_ ?_ ?_
  · kernel_rfl
  · exact of_decide_eq_true (by kernel_rfl)
  · exact all_cons ⟨_, by rfl, by rfl⟩ (all_cons ⟨_, by rfl, by rfl⟩ (all_cons ⟨_, by rfl, by rfl⟩ (all_cons ⟨_, by rfl, by rfl⟩ (all_cons ⟨_, by rfl, by rfl⟩ (all_cons ⟨_, by rfl, by rfl⟩ (all_cons ⟨_, by rfl, by rfl⟩ (all_cons ⟨_, by rfl, by rfl⟩ (all_cons ⟨_, by rfl, by rfl⟩ (all_cons ⟨_, by rfl, by rfl⟩ (all_cons ⟨_, by rfl, by rfl⟩ (all_cons ⟨_, by rfl, by rfl⟩ (all_cons ⟨_, by rfl, by rfl⟩ (all_cons ⟨_, by rfl, by rfl⟩ (all_cons ⟨_, by rfl, by rfl⟩ (all_cons ⟨_, by rfl, by rfl⟩ (all_cons ⟨_, by rfl, by rfl⟩ (all_cons ⟨_, by rfl, by rfl⟩ (all_cons ⟨_, by rfl, by rfl⟩ (all_nil)))))))))))))))))))
  · kernel_rfl
  · refine all_cons ?_ (all_cons ?_ (all_cons ?_ (all_cons ?_ (all_cons ?_ (all_cons ?_ (all_cons ?_ (all_cons ?_ (all_cons ?_ (all_cons ?_ (all_cons ?_ (all_cons ?_ (all_cons ?_ (all_cons ?_ (all_cons ?_ (all_cons ?_ (all_cons ?_ (all_cons ?_ (all_cons ?_ (all_nil)))))))))))))))))))
    · exact coreS _ _ _ _ _ _ _ (by rfl) (by rfl) (wants_none) (fun ρ w kn hs => o_loadN (kn _ _ (F.old (by rfl) rfl)) (hs.get 1 rfl))
    · exact coreS _ _ _ _ _ _ _ (by rfl) (by rfl) (wants_none) (fun ρ w kn hs => o_fieldG1 (kn _ _ (F.old (by rfl) rfl)))
    · exact coreS _ _ _ _ _ _ _ (by rfl) (by rfl) (wants_none) (fun ρ w kn hs => o_loadG1 (kn _ _ (known_core 1 18 _ _ (of_decide_eq_true (by rfl)) (by rfl) (by rfl) (by rfl))) (hs.get 2 rfl))
    · exact core_pureAs _ (by rfl)
    · exact coreS _ _ _ _ _ _ _ (by rfl) (by rfl) (wants_none) (fun ρ w kn hs => o_bin (u := .int .i64 (cmpN A Q)) (v := .int .i64 0) (fun ρ hx hy => by simp only [execOp, hx, hy]; simp [go_sem]; exact ha) (kn _ _ (known_core 3 20 _ _ (of_decide_eq_true (by rfl)) (by rfl) (by rfl) (by rfl))) (kn _ _ (known_const _)))
    · exact coreS _ _ _ _ _ _ _ (by rfl) (by rfl) (wants_none) (fun ρ w kn hs => o_move (kn _ _ (known_core 4 21 _ _ (of_decide_eq_true (by rfl)) (by rfl) (by rfl) (by rfl))))
    · exact coreS _ _ _ _ _ _ _ (by rfl) (by rfl) (wants_core 5 22 5 _ _ _ (by rfl) (by rfl) (by rfl) (known_core 5 22 _ _ (of_decide_eq_true (by rfl)) (by rfl) (by rfl) (by rfl)) _ (by rfl)) (fun ρ w kn hs => o_loadN (kn _ _ (F.old (by rfl) rfl)) (hs.get 0 rfl))
    · exact coreS _ _ _ _ _ _ _ (by rfl) (by rfl) (wants_core 5 22 5 _ _ _ (by rfl) (by rfl) (by rfl) (known_core 5 22 _ _ (of_decide_eq_true (by rfl)) (by rfl) (by rfl) (by rfl)) _ (by rfl)) (fun ρ w kn hs => o_fieldG1 (kn _ _ (F.old (by rfl) rfl)))
    · exact coreS _ _ _ _ _ _ _ (by rfl) (by rfl) (wants_core 5 22 5 _ _ _ (by rfl) (by rfl) (by rfl) (known_core 5 22 _ _ (of_decide_eq_true (by rfl)) (by rfl) (by rfl) (by rfl)) _ (by rfl)) (fun ρ w kn hs => o_loadG1 (kn _ _ (known_core 7 24 _ _ (of_decide_eq_true (by rfl)) (by rfl) (by rfl) (by rfl))) (hs.get 2 rfl))
    · exact core_pureAs _ (by rfl)
    · exact coreS _ _ _ _ _ _ _ (by rfl) (by rfl) (wants_core 5 22 5 _ _ _ (by rfl) (by rfl) (by rfl) (known_core 5 22 _ _ (of_decide_eq_true (by rfl)) (by rfl) (by rfl) (by rfl)) _ (by rfl)) (fun ρ w kn hs => o_bin (u := .int .i64 (cmpN B Q)) (v := .int .i64 0) (fun ρ hx hy => by simp only [execOp, hx, hy]; simp [go_sem]; exact hb) (kn _ _ (known_core 9 26 _ _ (of_decide_eq_true (by rfl)) (by rfl) (by rfl) (by rfl))) (kn _ _ (known_const _)))
    · exact coreS _ _ _ _ _ _ _ (by rfl) (by rfl) (wants_none) (fun ρ w kn hs => o_pick (b := false) (r := .bool false) (kn _ _ (known_core 5 22 _ _ (of_decide_eq_true (by rfl)) (by rfl) (by rfl) (by rfl))) (kn _ _ (known_const _)) (kn _ _ (known_core 10 27 _ _ (of_decide_eq_true (by rfl)) (by rfl) (by rfl) (by rfl))) rfl)
    · exact coreS _ _ _ _ _ _ _ (by rfl) (by rfl) (wants_none) (fun ρ w kn hs => o_move (kn _ _ (known_core 11 28 _ _ (of_decide_eq_true (by rfl)) (by rfl) (by rfl) (by rfl))))
    · exact coreS _ _ _ _ _ _ _ (by rfl) (by rfl) (wants_core 12 29 12 _ _ _ (by rfl) (by rfl) (by rfl) (known_core 12 29 _ _ (of_decide_eq_true (by rfl)) (by rfl) (by rfl) (by rfl)) _ (by rfl)) (fun ρ w kn hs => o_fieldG1 (kn _ _ (F.old (by rfl) rfl)))
    · exact coreS _ _ _ _ _ _ _ (by rfl) (by rfl) (wants_core 12 29 12 _ _ _ (by rfl) (by rfl) (by rfl) (known_core 12 29 _ _ (of_decide_eq_true (by rfl)) (by rfl) (by rfl) (by rfl)) _ (by rfl)) (fun ρ w kn hs => o_loadG1 (kn _ _ (known_core 13 30 _ _ (of_decide_eq_true (by rfl)) (by rfl) (by rfl) (by rfl))) (hs.get 2 rfl))
    · exact core_pureAs _ (by rfl)
    · exact core_pureAs _ (by rfl)
    · exact coreS _ _ _ _ _ _ _ (by rfl) (by rfl) (wants_core 12 29 12 _ _ _ (by rfl) (by rfl) (by rfl) (known_core 12 29 _ _ (of_decide_eq_true (by rfl)) (by rfl) (by rfl) (by rfl)) _ (by rfl)) (fun ρ w kn hs => o_bin (u := .int .i64 (cmpN Q 1)) (v := .int .i64 0) (fun ρ hx hy => by simp only [execOp, hx, hy]; simp [go_sem]; exact hk) (kn _ _ (known_core 16 33 _ _ (of_decide_eq_true (by rfl)) (by rfl) (by rfl) (by rfl))) (kn _ _ (known_const _)))
    · exact coreS _ _ _ _ _ _ _ (by rfl) (by rfl) (wants_none) (fun ρ w kn hs => o_pick (b := false) (r := .bool true) (kn _ _ (known_core 12 29 _ _ (of_decide_eq_true (by rfl)) (by rfl) (by rfl) (by rfl))) (kn _ _ (known_const _)) (kn _ _ (known_core 17 34 _ _ (of_decide_eq_true (by rfl)) (by rfl) (by rfl) (by rfl))) rfl)
  · refine all_cons ?_ (all_cons ?_ (all_cons ?_ (all_cons ?_ (all_cons ?_ (all_cons ?_ (all_cons ?_ (all_cons ?_ (all_cons ?_ (all_cons ?_ (all_cons ?_ (all_cons ?_ (all_cons ?_ (all_cons ?_ (all_cons ?_ (all_cons ?_ (all_cons ?_ (all_cons ?_ (all_cons ?_ (all_nil)))))))))))))))))))
    · exact core_stepAs _ (by rfl)
    · exact core_stepAs _ (by rfl)
    · exact core_stepAs _ (by rfl)
    · exact fun _ => coreG_call _ 24 _ _ [.tmp 17, .tmp 19] _ _ _ _ _ _ _ (by rfl) Try.func24 (by kernel_rfl) (by rfl) (by rfl) (wants_none) (.cons (known_core 0 17 _ _ (of_decide_eq_true (by rfl)) (by rfl) (by rfl) (by rfl)) (.cons (known_core 2 19 _ _ (of_decide_eq_true (by rfl)) (by rfl) (by rfl) (by rfl)) .nil)) ((fun w => cmp_any A Q hA hQ w))
    · exact core_stepAs _ (by rfl)
    · exact core_stepAs _ (by rfl)
    · exact core_stepAs _ (by rfl)
    · exact core_stepAs _ (by rfl)
    · exact core_stepAs _ (by rfl)
    · exact fun _ => coreG_call _ 24 _ _ [.tmp 23, .tmp 25] _ _ _ _ _ _ _ (by rfl) Try.func24 (by kernel_rfl) (by rfl) (by rfl) (wants_core 5 22 5 _ _ _ (by rfl) (by rfl) (by rfl) (known_core 5 22 _ _ (of_decide_eq_true (by rfl)) (by rfl) (by rfl) (by rfl)) _ (by rfl)) (.cons (known_core 6 23 _ _ (of_decide_eq_true (by rfl)) (by rfl) (by rfl) (by rfl)) (.cons (known_core 8 25 _ _ (of_decide_eq_true (by rfl)) (by rfl) (by rfl) (by rfl)) .nil)) ((fun w => cmp_any B Q hB hQ w))
    · exact core_stepAs _ (by rfl)
    · exact core_stepAs _ (by rfl)
    · exact core_stepAs _ (by rfl)
    · exact core_stepAs _ (by rfl)
    · exact core_stepAs _ (by rfl)
    · exact fun _ => coreG_call _ 25 _ _ [.const (.int .u64 1)] _ _ _ _ _ _ _ (by rfl) Try.func25 (by kernel_rfl) (by rfl) (by rfl) (wants_core 12 29 12 _ _ _ (by rfl) (by rfl) (by rfl) (known_core 12 29 _ _ (of_decide_eq_true (by rfl)) (by rfl) (by rfl) (by rfl)) _ (by rfl)) (.cons (known_const _) .nil) ((fun w => of9_any 1 (by decide) w))
    · exact fun _ => coreG_call _ 24 _ _ [.tmp 31, .tmp 32] _ _ _ _ _ _ _ (by rfl) Try.func24 (by kernel_rfl) (by rfl) (by rfl) (wants_core 12 29 12 _ _ _ (by rfl) (by rfl) (by rfl) (known_core 12 29 _ _ (of_decide_eq_true (by rfl)) (by rfl) (by rfl) (by rfl)) _ (by rfl)) (.cons (known_core 14 31 _ _ (of_decide_eq_true (by rfl)) (by rfl) (by rfl) (by rfl)) (.cons (known_core 15 32 _ _ (of_decide_eq_true (by rfl)) (by rfl) (by rfl) (by rfl)) .nil)) ((fun w => cmp_any Q 1 hQ (by decide) w))
    · exact core_stepAs _ (by rfl)
    · exact core_stepAs _ (by rfl)
  intro gs rs a w hgs hrs F HM
  obtain rfl := nl0 rs hrs
  clear hrs
  obtain rfl := nl0 gs hgs
  clear hgs
  refine sx_done (by kernel_rfl) ?_ _
  repeat (first | refine ex_then ?_ | refine ex_block ?_ | refine wp_seq ?_ | refine wp_block ?_ | refine wp_skip ?_)
  refine wp_cond_true (F.ev rfl) ?_
  repeat (first | refine ex_then ?_ | refine ex_block ?_ | refine wp_seq ?_ | refine wp_block ?_ | refine wp_skip ?_)
  refine wp_region_lit ?_
  refine lx_call F (wanted_none rfl _) rfl (by rfl) (run_callF Try.func26 (by kernel_rfl) (by rfl) .nil _) (alive9_any _) fun a w z F => ?_
  replace HM := HM.on z
  clear z
  refine lx_value (v := .bool true) F (wanted_none rfl _) rfl (by rfl) (o_assign (F.ev rfl)) fun a F => ?_
  refine lx_nil ?_
  repeat (first | refine ex_then ?_ | refine ex_block ?_ | refine wp_seq ?_ | refine wp_block ?_ | refine wp_skip ?_)
  refine wp_ret ?_
  repeat (first | refine ex_thenR ?_ | refine ex_blockR ?_)
  exact sx_ret F HM (res_tmp F rfl (s := 6) rfl)

set_option maxRecDepth 100000 in
set_option maxHeartbeats 8000000 in
theorem undo_none (P Q G H A B S : Nat)
    (hQ : Q < 2 ^ 256)
    (hA : A < 2 ^ 256)
    (hB : B < 2 ^ 256)
    (ha : cmpN A Q < 0)
    (hb : cmpN B Q < 0)
    (hk : 0 < cmpN Q 1)
    (c1 : ∀ w, Calls Try.prog 14 #[grp P Q G H, num A, num B] w fun e w' => e = .returned (.tuple #[num S, .int .i64 0]) ∧ Below w.heap.size w w')
    (c2 : ∀ w, Calls Try.prog 15 #[grp P Q G H, num S, num B] w fun e w' => e = .returned (.tuple #[num A, .int .i64 0]) ∧ Below w.heap.size w w')
    (c3 : ∀ w, Calls Try.prog 17 #[grp P Q G H, num B] w fun e w' => e = .returned (.tuple #[num 0, .int .i64 7]) ∧ Below w.heap.size w w')
    (w : World) : Calls Try.prog 7 #[grp P Q G H, num A, num B] w fun e w' => e = .returned (.bool true) ∧ Below w.heap.size w w' := by
  refine sx_enter (args := [grp P Q G H, num A, num B]) Try.func7 rfl Try.ntmps7 (by rfl) fun a F HM => ?_
  repeat (first | refine ex_then ?_ | refine ex_block ?_ | refine wp_seq ?_ | refine wp_block ?_ | refine wp_skip ?_)
  refine wp_region_lit ?_
  refine lx_new F HM (wanted_none rfl _) rfl (by rfl) (o_boxG (F.ev rfl)) fun a w gg F HM => ?_
  refine lx_new F HM (wanted_none rfl _) rfl (by rfl) (o_boxN (F.ev rfl)) fun a w ga F HM => ?_
  refine lx_new F HM (wanted_none rfl _) rfl (by rfl) (o_boxN (F.ev rfl)) fun a w gb F HM => ?_
  refine lx_value (v := .bool false) F (wanted_none rfl _) rfl (by rfl) (o_assign rfl) fun a F => ?_
  refine lx_nil ?_
  repeat (first | refine ex_then ?_ | refine ex_block ?_ | refine wp_seq ?_ | refine wp_block ?_ | refine wp_skip ?_)
  try simp only [List.append_eq, List.cons_append, List.nil_append]
  refine sx_drawn [⟨0, 17, [], .val (num A), true⟩,
      ⟨1, 18, [0], .val (.pointer (some ⟨gg, 4, none⟩)), true⟩,
      ⟨2, 19, [1], .val (num Q), true⟩,
      ⟨3, 20, [0, 2], .val (.int .i64 (cmpN A Q)), false⟩,
      ⟨4, 21, [3], .val (.bool false), true⟩,
      ⟨5, 22, [4], .val (.bool false), true⟩,
      ⟨6, 23, [5], .val (num B), true⟩,
      ⟨7, 24, [5, 6], .val (.pointer (some ⟨gg, 4, none⟩)), true⟩,
      ⟨8, 25, [5, 7], .val (num Q), true⟩,
      ⟨9, 26, [5, 6, 8], .val (.int .i64 (cmpN B Q)), false⟩,
      ⟨10, 27, [5, 9], .val (.bool false), true⟩,
      ⟨11, 28, [5, 10], .val (.bool false), true⟩,
      ⟨12, 29, [11], .val (.bool false), true⟩,
      ⟨13, 30, [12], .val (.pointer (some ⟨gg, 4, none⟩)), true⟩,
      ⟨14, 31, [12, 13], .val (num Q), true⟩,
      ⟨15, 32, [12, 14], .val (num 1), false⟩,
      ⟨16, 33, [12, 14, 15], .val (.int .i64 (cmpN Q 1)), false⟩,
      ⟨17, 34, [12, 16], .val (.bool false), true⟩,
      ⟨18, 35, [12, 17], .val (.bool false), true⟩] 0 F HM (by kernel_rfl) (by rfl) (by rfl) ?_ ?_ ?_ ?_ ?_ ?_ ?_
  · kernel_rfl
  · exact of_decide_eq_true (by kernel_rfl)
  · exact all_cons ⟨_, by rfl, by rfl⟩ (all_cons ⟨_, by rfl, by rfl⟩ (all_cons ⟨_, by rfl, by rfl⟩ (all_cons ⟨_, by rfl, by rfl⟩ (all_cons ⟨_, by rfl, by rfl⟩ (all_cons ⟨_, by rfl, by rfl⟩ (all_cons ⟨_, by rfl, by rfl⟩ (all_cons ⟨_, by rfl, by rfl⟩ (all_cons ⟨_, by rfl, by rfl⟩ (all_cons ⟨_, by rfl, by rfl⟩ (all_cons ⟨_, by rfl, by rfl⟩ (all_cons ⟨_, by rfl, by rfl⟩ (all_cons ⟨_, by rfl, by rfl⟩ (all_cons ⟨_, by rfl, by rfl⟩ (all_cons ⟨_, by rfl, by rfl⟩ (all_cons ⟨_, by rfl, by rfl⟩ (all_cons ⟨_, by rfl, by rfl⟩ (all_cons ⟨_, by rfl, by rfl⟩ (all_cons ⟨_, by rfl, by rfl⟩ (all_nil)))))))))))))))))))
  · kernel_rfl
  · refine all_cons ?_ (all_cons ?_ (all_cons ?_ (all_cons ?_ (all_cons ?_ (all_cons ?_ (all_cons ?_ (all_cons ?_ (all_cons ?_ (all_cons ?_ (all_cons ?_ (all_cons ?_ (all_cons ?_ (all_cons ?_ (all_cons ?_ (all_cons ?_ (all_cons ?_ (all_cons ?_ (all_cons ?_ (all_nil)))))))))))))))))))
    · exact coreS _ _ _ _ _ _ _ (by rfl) (by rfl) (wants_none) (fun ρ w kn hs => o_loadN (kn _ _ (F.old (by rfl) rfl)) (hs.get 1 rfl))
    · exact coreS _ _ _ _ _ _ _ (by rfl) (by rfl) (wants_none) (fun ρ w kn hs => o_fieldG1 (kn _ _ (F.old (by rfl) rfl)))
    · exact coreS _ _ _ _ _ _ _ (by rfl) (by rfl) (wants_none) (fun ρ w kn hs => o_loadG1 (kn _ _ (known_core 1 18 _ _ (of_decide_eq_true (by rfl)) (by rfl) (by rfl) (by rfl))) (hs.get 2 rfl))
    · exact core_pureAs _ (by rfl)
    · exact coreS _ _ _ _ _ _ _ (by rfl) (by rfl) (wants_none) (fun ρ w kn hs => o_bin (u := .int .i64 (cmpN A Q)) (v := .int .i64 0) (fun ρ hx hy => by simp only [execOp, hx, hy]; simp [go_sem]; exact ha) (kn _ _ (known_core 3 20 _ _ (of_decide_eq_true (by rfl)) (by rfl) (by rfl) (by rfl))) (kn _ _ (known_const _)))
    · exact coreS _ _ _ _ _ _ _ (by rfl) (by rfl) (wants_none) (fun ρ w kn hs => o_move (kn _ _ (known_core 4 21 _ _ (of_decide_eq_true (by rfl)) (by rfl) (by rfl) (by rfl))))
    · exact coreS _ _ _ _ _ _ _ (by rfl) (by rfl) (wants_core 5 22 5 _ _ _ (by rfl) (by rfl) (by rfl) (known_core 5 22 _ _ (of_decide_eq_true (by rfl)) (by rfl) (by rfl) (by rfl)) _ (by rfl)) (fun ρ w kn hs => o_loadN (kn _ _ (F.old (by rfl) rfl)) (hs.get 0 rfl))
    · exact coreS _ _ _ _ _ _ _ (by rfl) (by rfl) (wants_core 5 22 5 _ _ _ (by rfl) (by rfl) (by rfl) (known_core 5 22 _ _ (of_decide_eq_true (by rfl)) (by rfl) (by rfl) (by rfl)) _ (by rfl)) (fun ρ w kn hs => o_fieldG1 (kn _ _ (F.old (by rfl) rfl)))
    · exact coreS _ _ _ _ _ _ _ (by rfl) (by rfl) (wants_core 5 22 5 _ _ _ (by rfl) (by rfl) (by rfl) (known_core 5 22 _ _ (of_decide_eq_true (by rfl)) (by rfl) (by rfl) (by rfl)) _ (by rfl)) (fun ρ w kn hs => o_loadG1 (kn _ _ (known_core 7 24 _ _ (of_decide_eq_true (by rfl)) (by rfl) (by rfl) (by rfl))) (hs.get 2 rfl))
    · exact core_pureAs _ (by rfl)
    · exact coreS _ _ _ _ _ _ _ (by rfl) (by rfl) (wants_core 5 22 5 _ _ _ (by rfl) (by rfl) (by rfl) (known_core 5 22 _ _ (of_decide_eq_true (by rfl)) (by rfl) (by rfl) (by rfl)) _ (by rfl)) (fun ρ w kn hs => o_bin (u := .int .i64 (cmpN B Q)) (v := .int .i64 0) (fun ρ hx hy => by simp only [execOp, hx, hy]; simp [go_sem]; exact hb) (kn _ _ (known_core 9 26 _ _ (of_decide_eq_true (by rfl)) (by rfl) (by rfl) (by rfl))) (kn _ _ (known_const _)))
    · exact coreS _ _ _ _ _ _ _ (by rfl) (by rfl) (wants_none) (fun ρ w kn hs => o_pick (b := false) (r := .bool false) (kn _ _ (known_core 5 22 _ _ (of_decide_eq_true (by rfl)) (by rfl) (by rfl) (by rfl))) (kn _ _ (known_const _)) (kn _ _ (known_core 10 27 _ _ (of_decide_eq_true (by rfl)) (by rfl) (by rfl) (by rfl))) rfl)
    · exact coreS _ _ _ _ _ _ _ (by rfl) (by rfl) (wants_none) (fun ρ w kn hs => o_move (kn _ _ (known_core 11 28 _ _ (of_decide_eq_true (by rfl)) (by rfl) (by rfl) (by rfl))))
    · exact coreS _ _ _ _ _ _ _ (by rfl) (by rfl) (wants_core 12 29 12 _ _ _ (by rfl) (by rfl) (by rfl) (known_core 12 29 _ _ (of_decide_eq_true (by rfl)) (by rfl) (by rfl) (by rfl)) _ (by rfl)) (fun ρ w kn hs => o_fieldG1 (kn _ _ (F.old (by rfl) rfl)))
    · exact coreS _ _ _ _ _ _ _ (by rfl) (by rfl) (wants_core 12 29 12 _ _ _ (by rfl) (by rfl) (by rfl) (known_core 12 29 _ _ (of_decide_eq_true (by rfl)) (by rfl) (by rfl) (by rfl)) _ (by rfl)) (fun ρ w kn hs => o_loadG1 (kn _ _ (known_core 13 30 _ _ (of_decide_eq_true (by rfl)) (by rfl) (by rfl) (by rfl))) (hs.get 2 rfl))
    · exact core_pureAs _ (by rfl)
    · exact core_pureAs _ (by rfl)
    · exact coreS _ _ _ _ _ _ _ (by rfl) (by rfl) (wants_core 12 29 12 _ _ _ (by rfl) (by rfl) (by rfl) (known_core 12 29 _ _ (of_decide_eq_true (by rfl)) (by rfl) (by rfl) (by rfl)) _ (by rfl)) (fun ρ w kn hs => o_bin (u := .int .i64 (cmpN Q 1)) (v := .int .i64 0) (fun ρ hx hy => by simp only [execOp, hx, hy]; simp [go_sem]; exact hk) (kn _ _ (known_core 16 33 _ _ (of_decide_eq_true (by rfl)) (by rfl) (by rfl) (by rfl))) (kn _ _ (known_const _)))
    · exact coreS _ _ _ _ _ _ _ (by rfl) (by rfl) (wants_none) (fun ρ w kn hs => o_pick (b := false) (r := .bool false) (kn _ _ (known_core 12 29 _ _ (of_decide_eq_true (by rfl)) (by rfl) (by rfl) (by rfl))) (kn _ _ (known_const _)) (kn _ _ (known_core 17 34 _ _ (of_decide_eq_true (by rfl)) (by rfl) (by rfl) (by rfl))) rfl)
  · refine all_cons ?_ (all_cons ?_ (all_cons ?_ (all_cons ?_ (all_cons ?_ (all_cons ?_ (all_cons ?_ (all_cons ?_ (all_cons ?_ (all_cons ?_ (all_cons ?_ (all_cons ?_ (all_cons ?_ (all_cons ?_ (all_cons ?_ (all_cons ?_ (all_cons ?_ (all_cons ?_ (all_cons ?_ (all_nil)))))))))))))))))))
    · exact core_stepAs _ (by rfl)
    · exact core_stepAs _ (by rfl)
    · exact core_stepAs _ (by rfl)
    · exact fun _ => coreG_call _ 24 _ _ [.tmp 17, .tmp 19] _ _ _ _ _ _ _ (by rfl) Try.func24 (by kernel_rfl) (by rfl) (by rfl) (wants_none) (.cons (known_core 0 17 _ _ (of_decide_eq_true (by rfl)) (by rfl) (by rfl) (by rfl)) (.cons (known_core 2 19 _ _ (of_decide_eq_true (by rfl)) (by rfl) (by rfl) (by rfl)) .nil)) ((fun w => cmp_any A Q hA hQ w))
    · exact core_stepAs _ (by rfl)
    · exact core_stepAs _ (by rfl)
    · exact core_stepAs _ (by rfl)
    · exact core_stepAs _ (by rfl)
    · exact core_stepAs _ (by rfl)
    · exact fun _ => coreG_call _ 24 _ _ [.tmp 23, .tmp 25] _ _ _ _ _ _ _ (by rfl) Try.func24 (by kernel_rfl) (by rfl) (by rfl) (wants_core 5 22 5 _ _ _ (by rfl) (by rfl) (by rfl) (known_core 5 22 _ _ (of_decide_eq_true (by rfl)) (by rfl) (by rfl) (by rfl)) _ (by rfl)) (.cons (known_core 6 23 _ _ (of_decide_eq_true (by rfl)) (by rfl) (by rfl) (by rfl)) (.cons (known_core 8 25 _ _ (of_decide_eq_true (by rfl)) (by rfl) (by rfl) (by rfl)) .nil)) ((fun w => cmp_any B Q hB hQ w))
    · exact core_stepAs _ (by rfl)
    · exact core_stepAs _ (by rfl)
    · exact core_stepAs _ (by rfl)
    · exact core_stepAs _ (by rfl)
    · exact core_stepAs _ (by rfl)
    · exact fun _ => coreG_call _ 25 _ _ [.const (.int .u64 1)] _ _ _ _ _ _ _ (by rfl) Try.func25 (by kernel_rfl) (by rfl) (by rfl) (wants_core 12 29 12 _ _ _ (by rfl) (by rfl) (by rfl) (known_core 12 29 _ _ (of_decide_eq_true (by rfl)) (by rfl) (by rfl) (by rfl)) _ (by rfl)) (.cons (known_const _) .nil) ((fun w => of9_any 1 (by decide) w))
    · exact fun _ => coreG_call _ 24 _ _ [.tmp 31, .tmp 32] _ _ _ _ _ _ _ (by rfl) Try.func24 (by kernel_rfl) (by rfl) (by rfl) (wants_core 12 29 12 _ _ _ (by rfl) (by rfl) (by rfl) (known_core 12 29 _ _ (of_decide_eq_true (by rfl)) (by rfl) (by rfl) (by rfl)) _ (by rfl)) (.cons (known_core 14 31 _ _ (of_decide_eq_true (by rfl)) (by rfl) (by rfl) (by rfl)) (.cons (known_core 15 32 _ _ (of_decide_eq_true (by rfl)) (by rfl) (by rfl) (by rfl)) .nil)) ((fun w => cmp_any Q 1 hQ (by decide) w))
    · exact core_stepAs _ (by rfl)
    · exact core_stepAs _ (by rfl)
  intro gs rs a w hgs hrs F HM
  obtain rfl := nl0 rs hrs
  clear hrs
  obtain rfl := nl0 gs hgs
  clear hgs
  refine sx_done (by kernel_rfl) ?_ _
  repeat (first | refine ex_then ?_ | refine ex_block ?_ | refine wp_seq ?_ | refine wp_block ?_ | refine wp_skip ?_)
  refine wp_cond_false (F.ev rfl) ?_
  repeat (first | refine ex_then ?_ | refine ex_block ?_ | refine wp_seq ?_ | refine wp_block ?_ | refine wp_skip ?_)
  refine wp_region_lit ?_
  refine lx_value (v := grp P Q G H) F (wanted_none rfl _) rfl (by rfl) (o_loadG (F.ev rfl) (HM.get 2 rfl)) fun a F => ?_
  refine lx_value (v := num A) F (wanted_none rfl _) rfl (by rfl) (o_loadN (F.ev rfl) (HM.get 1 rfl)) fun a F => ?_
  refine lx_value (v := num B) F (wanted_none rfl _) rfl (by rfl) (o_loadN (F.ev rfl) (HM.get 0 rfl)) fun a F => ?_
  refine lx_call F (wanted_none rfl _) rfl (by rfl) (run_callF Try.func14 (by kernel_rfl) (by rfl) (.cons (F.ev rfl) (.cons (F.ev rfl) (.cons (F.ev rfl) .nil))) _) (c1 _) fun a w z F => ?_
  replace HM := HM.on z
  clear z
  refine lx_value (v := .tuple #[num S, .int .i64 0]) F (wanted_none rfl _) rfl (by rfl) (o_move (F.ev rfl)) fun a F => ?_
  refine lx_value (v := num S) F (wanted_none rfl _) rfl (by rfl) (o_extract (F.ev rfl) rfl) fun a F => ?_
  refine lx_value (v := .int .i64 0) F (wanted_none rfl _) rfl (by rfl) (o_extract (F.ev rfl) rfl) fun a F => ?_
  refine lx_new F HM (wanted_none rfl _) rfl (by rfl) (o_allocN) fun a w gs F HM => ?_
  refine lx_store F HM (wanted_none rfl _) rfl (k := 0) rfl (o_storeN (F.ev rfl) (F.ev rfl) (HM.get 0 rfl)) (M2 := [(gs, 24, ncs S), (gb, 24, ncs B), (ga, 24, ncs A), (gg, 35, gcs P Q G H)]) rfl fun w HM => ?_
  refine lx_value (v := .int .i64 0) F (wanted_none rfl _) rfl (by rfl) (o_assign (F.ev rfl)) fun a F => ?_
  refine lx_nil ?_
  repeat (first | refine ex_then ?_ | refine ex_block ?_ | refine wp_seq ?_ | refine wp_block ?_ | refine wp_skip ?_)
  refine wp_region_lit ?_
  refine lx_value (v := grp P Q G H) F (wanted_none rfl _) rfl (by rfl) (o_loadG (F.ev rfl) (HM.get 3 rfl)) fun a F => ?_
  refine lx_value (v := num S) F (wanted_none rfl _) rfl (by rfl) (o_loadN (F.ev rfl) (HM.get 0 rfl)) fun a F => ?_
  refine lx_value (v := num B) F (wanted_none rfl _) rfl (by rfl) (o_loadN (F.ev rfl) (HM.get 1 rfl)) fun a F => ?_
  refine lx_call F (wanted_none rfl _) rfl (by rfl) (run_callF Try.func15 (by kernel_rfl) (by rfl) (.cons (F.ev rfl) (.cons (F.ev rfl) (.cons (F.ev rfl) .nil))) _) (c2 _) fun a w z F => ?_
  replace HM := HM.on z
  clear z
  refine lx_value (v := .tuple #[num A, .int .i64 0]) F (wanted_none rfl _) rfl (by rfl) (o_move (F.ev rfl)) fun a F => ?_
  refine lx_value (v := num A) F (wanted_none rfl _) rfl (by rfl) (o_extract (F.ev rfl) rfl) fun a F => ?_
  refine lx_value (v := .int .i64 0) F (wanted_none rfl _) rfl (by rfl) (o_extract (F.ev rfl) rfl) fun a F => ?_
  refine lx_new F HM (wanted_none rfl _) rfl (by rfl) (o_allocN) fun a w gk F HM => ?_
  refine lx_store F HM (wanted_none rfl _) rfl (k := 0) rfl (o_storeN (F.ev rfl) (F.ev rfl) (HM.get 0 rfl)) (M2 := [(gk, 24, ncs A), (gs, 24, ncs S), (gb, 24, ncs B), (ga, 24, ncs A), (gg, 35, gcs P Q G H)]) rfl fun w HM => ?_
  refine lx_value (v := .int .i64 0) F (wanted_none rfl _) rfl (by rfl) (o_assign (F.ev rfl)) fun a F => ?_
  refine lx_nil ?_
  repeat (first | refine ex_then ?_ | refine ex_block ?_ | refine wp_seq ?_ | refine wp_block ?_ | refine wp_skip ?_)
  refine wp_region_lit ?_
  refine lx_value (v := .int .i64 0) F (wanted_none rfl _) rfl (by rfl) (o_move (F.ev rfl)) fun a F => ?_
  refine lx_value (v := .bool false) F (wanted_none rfl _) rfl (by rfl) (o_bin (u := .int .i64 0) (v := .int .i64 0) (fun ρ hx hy => by simp only [execOp, hx, hy]; simp [go_sem]) (F.ev rfl) rfl) fun a F => ?_
  refine lx_value (v := .bool false) F (wanted_none rfl _) rfl (by rfl) (o_move (F.ev rfl)) fun a F => ?_
  refine lx_value (v := .int .i64 0) F (F.want (t := 53) (c := false) rfl rfl rfl (by rfl) rfl) rfl (by rfl) (o_move (F.ev rfl)) fun a F => ?_
  refine lx_value (v := .bool false) F (F.want (t := 53) (c := false) rfl rfl rfl (by rfl) rfl) rfl (by rfl) (o_bin (u := .int .i64 0) (v := .int .i64 0) (fun ρ hx hy => by simp only [execOp, hx, hy]; simp [go_sem]) (F.ev rfl) rfl) fun a F => ?_
  refine lx_value (v := .bool false) F (wanted_none rfl _) rfl (by rfl) (o_pick (b := false) (r := .bool false) (F.ev rfl) rfl (F.ev rfl) rfl) fun a F => ?_
  refine lx_value (v := .bool false) F (wanted_none rfl _) rfl (by rfl) (o_move (F.ev rfl)) fun a F => ?_
  refine lx_value (v := num A) F (F.want (t := 57) (c := false) rfl rfl rfl (by rfl) rfl) rfl (by rfl) (o_loadN (F.ev rfl) (HM.get 0 rfl)) fun a F => ?_
  refine lx_value (v := num A) F (F.want (t := 57) (c := false) rfl rfl rfl (by rfl) rfl) rfl (by rfl) (o_loadN (F.ev rfl) (HM.get 3 rfl)) fun a F => ?_
  refine lx_value (v := .bool false) F (F.want (t := 57) (c := false) rfl rfl rfl (by rfl) rfl) rfl (by rfl) (o_neqS (F.ev rfl) (F.ev rfl)) fun a F => ?_
  refine lx_value (v := .bool false) F (wanted_none rfl _) rfl (by rfl) (o_pick (b := false) (r := .bool false) (F.ev rfl) rfl (F.ev rfl) rfl) fun a F => ?_
  refine lx_nil ?_
  repeat (first | refine ex_then ?_ | refine ex_block ?_ | refine wp_seq ?_ | refine wp_block ?_ | refine wp_skip ?_)
  refine wp_cond_false (F.ev rfl) ?_
  repeat (first | refine ex_then ?_ | refine ex_block ?_ | refine wp_seq ?_ | refine wp_block ?_ | refine wp_skip ?_)
  refine wp_region_lit ?_
  refine lx_value (v := grp P Q G H) F (wanted_none rfl _) rfl (by rfl) (o_loadG (F.ev rfl) (HM.get 4 rfl)) fun a F => ?_
  refine lx_value (v := num B) F (wanted_none rfl _) rfl (by rfl) (o_loadN (F.ev rfl) (HM.get 2 rfl)) fun a F => ?_
  refine lx_call F (wanted_none rfl _) rfl (by rfl) (run_callF Try.func17 (by kernel_rfl) (by rfl) (.cons (F.ev rfl) (.cons (F.ev rfl) .nil)) _) (c3 _) fun a w z F => ?_
  replace HM := HM.on z
  clear z
  refine lx_value (v := .tuple #[num 0, .int .i64 7]) F (wanted_none rfl _) rfl (by rfl) (o_move (F.ev rfl)) fun a F => ?_
  refine lx_value (v := num 0) F (wanted_none rfl _) rfl (by rfl) (o_extract (F.ev rfl) rfl) fun a F => ?_
  refine lx_value (v := .int .i64 7) F (wanted_none rfl _) rfl (by rfl) (o_extract (F.ev rfl) rfl) fun a F => ?_
  refine lx_new F HM (wanted_none rfl _) rfl (by rfl) (o_allocN) fun a w gi F HM => ?_
  refine lx_store F HM (wanted_none rfl _) rfl (k := 0) rfl (o_storeN (F.ev rfl) (F.ev rfl) (HM.get 0 rfl)) (M2 := [(gi, 24, ncs 0), (gk, 24, ncs A), (gs, 24, ncs S), (gb, 24, ncs B), (ga, 24, ncs A), (gg, 35, gcs P Q G H)]) rfl fun w HM => ?_
  refine lx_value (v := .int .i64 7) F (wanted_none rfl _) rfl (by rfl) (o_assign (F.ev rfl)) fun a F => ?_
  refine lx_nil ?_
  repeat (first | refine ex_then ?_ | refine ex_block ?_ | refine wp_seq ?_ | refine wp_block ?_ | refine wp_skip ?_)
  refine wp_region_lit ?_
  refine lx_value (v := .int .i64 7) F (wanted_none rfl _) rfl (by rfl) (o_move (F.ev rfl)) fun a F => ?_
  refine lx_value (v := .bool true) F (wanted_none rfl _) rfl (by rfl) (o_bin (u := .int .i64 7) (v := .int .i64 0) (fun ρ hx hy => by simp only [execOp, hx, hy]; simp [go_sem]) (F.ev rfl) rfl) fun a F => ?_
  refine lx_nil ?_
  repeat (first | refine ex_then ?_ | refine ex_block ?_ | refine wp_seq ?_ | refine wp_block ?_ | refine wp_skip ?_)
  refine wp_cond_true (F.ev rfl) ?_
  repeat (first | refine ex_then ?_ | refine ex_block ?_ | refine wp_seq ?_ | refine wp_block ?_ | refine wp_skip ?_)
  refine wp_region_lit ?_
  refine lx_call F (wanted_none rfl _) rfl (by rfl) (run_callF Try.func26 (by kernel_rfl) (by rfl) .nil _) (alive9_any _) fun a w z F => ?_
  replace HM := HM.on z
  clear z
  refine lx_value (v := .bool true) F (wanted_none rfl _) rfl (by rfl) (o_move (F.ev rfl)) fun a F => ?_
  refine lx_value (v := .int .i64 7) F (F.want (t := 71) (c := true) rfl rfl rfl (by rfl) rfl) rfl (by rfl) (o_move (F.ev rfl)) fun a F => ?_
  refine lx_value (v := .bool true) F (F.want (t := 71) (c := true) rfl rfl rfl (by rfl) rfl) rfl (by rfl) (o_bin (u := .int .i64 7) (v := .int .i64 7) (fun ρ hx hy => by simp only [execOp, hx, hy]; simp [go_sem]) (F.ev rfl) rfl) fun a F => ?_
  refine lx_value (v := .bool true) F (wanted_none rfl _) rfl (by rfl) (o_pick (b := true) (r := .bool true) (F.ev rfl) (F.ev rfl) rfl rfl) fun a F => ?_
  refine lx_value (v := .bool true) F (wanted_none rfl _) rfl (by rfl) (o_assign (F.ev rfl)) fun a F => ?_
  refine lx_nil ?_
  repeat (first | refine ex_then ?_ | refine ex_block ?_ | refine wp_seq ?_ | refine wp_block ?_ | refine wp_skip ?_)
  refine wp_ret ?_
  repeat (first | refine ex_thenR ?_ | refine ex_blockR ?_)
  exact sx_ret F HM (res_tmp F rfl (s := 6) rfl)

set_option maxRecDepth 100000 in
set_option maxHeartbeats 8000000 in
theorem undo_some (P Q G H A B S V M : Nat)
    (hQ : Q < 2 ^ 256)
    (hA : A < 2 ^ 256)
    (hB : B < 2 ^ 256)
    (ha : cmpN A Q < 0)
    (hb : cmpN B Q < 0)
    (hk : 0 < cmpN Q 1)
    (c1 : ∀ w, Calls Try.prog 14 #[grp P Q G H, num A, num B] w fun e w' => e = .returned (.tuple #[num S, .int .i64 0]) ∧ Below w.heap.size w w')
    (c2 : ∀ w, Calls Try.prog 15 #[grp P Q G H, num S, num B] w fun e w' => e = .returned (.tuple #[num A, .int .i64 0]) ∧ Below w.heap.size w w')
    (c3 : ∀ w, Calls Try.prog 17 #[grp P Q G H, num B] w fun e w' => e = .returned (.tuple #[num V, .int .i64 0]) ∧ Below w.heap.size w w')
    (c4 : ∀ w, Calls Try.prog 16 #[grp P Q G H, num A, num B] w fun e w' => e = .returned (.tuple #[num M, .int .i64 0]) ∧ Below w.heap.size w w')
    (c5 : ∀ w, Calls Try.prog 16 #[grp P Q G H, num M, num V] w fun e w' => e = .returned (.tuple #[num A, .int .i64 0]) ∧ Below w.heap.size w w')
    (w : World) : Calls Try.prog 7 #[grp P Q G H, num A, num B] w fun e w' => e = .returned (.bool true) ∧ Below w.heap.size w w' := by
  refine sx_enter (args := [grp P Q G H, num A, num B]) Try.func7 rfl Try.ntmps7 (by rfl) fun a F HM => ?_
  repeat (first | refine ex_then ?_ | refine ex_block ?_ | refine wp_seq ?_ | refine wp_block ?_ | refine wp_skip ?_)
  refine wp_region_lit ?_
  refine lx_new F HM (wanted_none rfl _) rfl (by rfl) (o_boxG (F.ev rfl)) fun a w gg F HM => ?_
  refine lx_new F HM (wanted_none rfl _) rfl (by rfl) (o_boxN (F.ev rfl)) fun a w ga F HM => ?_
  refine lx_new F HM (wanted_none rfl _) rfl (by rfl) (o_boxN (F.ev rfl)) fun a w gb F HM => ?_
  refine lx_value (v := .bool false) F (wanted_none rfl _) rfl (by rfl) (o_assign rfl) fun a F => ?_
  refine lx_nil ?_
  repeat (first | refine ex_then ?_ | refine ex_block ?_ | refine wp_seq ?_ | refine wp_block ?_ | refine wp_skip ?_)
  try simp only [List.append_eq, List.cons_append, List.nil_append]
  refine sx_drawn [⟨0, 17, [], .val (num A), true⟩,
      ⟨1, 18, [0], .val (.pointer (some ⟨gg, 4, none⟩)), true⟩,
      ⟨2, 19, [1], .val (num Q), true⟩,
      ⟨3, 20, [0, 2], .val (.int .i64 (cmpN A Q)), false⟩,
      ⟨4, 21, [3], .val (.bool false), true⟩,
      ⟨5, 22, [4], .val (.bool false), true⟩,
      ⟨6, 23, [5], .val (num B), true⟩,
      ⟨7, 24, [5, 6], .val (.pointer (some ⟨gg, 4, none⟩)), true⟩,
      ⟨8, 25, [5, 7], .val (num Q), true⟩,
      ⟨9, 26, [5, 6, 8], .val (.int .i64 (cmpN B Q)), false⟩,
      ⟨10, 27, [5, 9], .val (.bool false), true⟩,
      ⟨11, 28, [5, 10], .val (.bool false), true⟩,
      ⟨12, 29, [11], .val (.bool false), true⟩,
      ⟨13, 30, [12], .val (.pointer (some ⟨gg, 4, none⟩)), true⟩,
      ⟨14, 31, [12, 13], .val (num Q), true⟩,
      ⟨15, 32, [12, 14], .val (num 1), false⟩,
      ⟨16, 33, [12, 14, 15], .val (.int .i64 (cmpN Q 1)), false⟩,
      ⟨17, 34, [12, 16], .val (.bool false), true⟩,
      ⟨18, 35, [12, 17], .val (.bool false), true⟩] 0 F HM (by kernel_rfl) (by rfl) (by rfl) ?_ ?_ ?_ ?_ ?_ ?_ ?_
  · kernel_rfl
  · exact of_decide_eq_true (by kernel_rfl)
  · exact all_cons ⟨_, by rfl, by rfl⟩ (all_cons ⟨_, by rfl, by rfl⟩ (all_cons ⟨_, by rfl, by rfl⟩ (all_cons ⟨_, by rfl, by rfl⟩ (all_cons ⟨_, by rfl, by rfl⟩ (all_cons ⟨_, by rfl, by rfl⟩ (all_cons ⟨_, by rfl, by rfl⟩ (all_cons ⟨_, by rfl, by rfl⟩ (all_cons ⟨_, by rfl, by rfl⟩ (all_cons ⟨_, by rfl, by rfl⟩ (all_cons ⟨_, by rfl, by rfl⟩ (all_cons ⟨_, by rfl, by rfl⟩ (all_cons ⟨_, by rfl, by rfl⟩ (all_cons ⟨_, by rfl, by rfl⟩ (all_cons ⟨_, by rfl, by rfl⟩ (all_cons ⟨_, by rfl, by rfl⟩ (all_cons ⟨_, by rfl, by rfl⟩ (all_cons ⟨_, by rfl, by rfl⟩ (all_cons ⟨_, by rfl, by rfl⟩ (all_nil)))))))))))))))))))
  · kernel_rfl
  · refine all_cons ?_ (all_cons ?_ (all_cons ?_ (all_cons ?_ (all_cons ?_ (all_cons ?_ (all_cons ?_ (all_cons ?_ (all_cons ?_ (all_cons ?_ (all_cons ?_ (all_cons ?_ (all_cons ?_ (all_cons ?_ (all_cons ?_ (all_cons ?_ (all_cons ?_ (all_cons ?_ (all_cons ?_ (all_nil)))))))))))))))))))
    · exact coreS _ _ _ _ _ _ _ (by rfl) (by rfl) (wants_none) (fun ρ w kn hs => o_loadN (kn _ _ (F.old (by rfl) rfl)) (hs.get 1 rfl))
    · exact coreS _ _ _ _ _ _ _ (by rfl) (by rfl) (wants_none) (fun ρ w kn hs => o_fieldG1 (kn _ _ (F.old (by rfl) rfl)))
    · exact coreS _ _ _ _ _ _ _ (by rfl) (by rfl) (wants_none) (fun ρ w kn hs => o_loadG1 (kn _ _ (known_core 1 18 _ _ (of_decide_eq_true (by rfl)) (by rfl) (by rfl) (by rfl))) (hs.get 2 rfl))
    · exact core_pureAs _ (by rfl)
    · exact coreS _ _ _ _ _ _ _ (by rfl) (by rfl) (wants_none) (fun ρ w kn hs => o_bin (u := .int .i64 (cmpN A Q)) (v := .int .i64 0) (fun ρ hx hy => by simp only [execOp, hx, hy]; simp [go_sem]; exact ha) (kn _ _ (known_core 3 20 _ _ (of_decide_eq_true (by rfl)) (by rfl) (by rfl) (by rfl))) (kn _ _ (known_const _)))
    · exact coreS _ _ _ _ _ _ _ (by rfl) (by rfl) (wants_none) (fun ρ w kn hs => o_move (kn _ _ (known_core 4 21 _ _ (of_decide_eq_true (by rfl)) (by rfl) (by rfl) (by rfl))))
    · exact coreS _ _ _ _ _ _ _ (by rfl) (by rfl) (wants_core 5 22 5 _ _ _ (by rfl) (by rfl) (by rfl) (known_core 5 22 _ _ (of_decide_eq_true (by rfl)) (by rfl) (by rfl) (by rfl)) _ (by rfl)) (fun ρ w kn hs => o_loadN (kn _ _ (F.old (by rfl) rfl)) (hs.get 0 rfl))
    · exact coreS _ _ _ _ _ _ _ (by rfl) (by rfl) (wants_core 5 22 5 _ _ _ (by rfl) (by rfl) (by rfl) (known_core 5 22 _ _ (of_decide_eq_true (by rfl)) (by rfl) (by rfl) (by rfl)) _ (by rfl)) (fun ρ w kn hs => o_fieldG1 (kn _ _ (F.old (by rfl) rfl)))
    · exact coreS _ _ _ _ _ _ _ (by rfl) (by rfl) (wants_core 5 22 5 _ _ _ (by rfl) (by rfl) (by rfl) (known_core 5 22 _ _ (of_decide_eq_true (by rfl)) (by rfl) (by rfl) (by rfl)) _ (by rfl)) (fun ρ w kn hs => o_loadG1 (kn _ _ (known_core 7 24 _ _ (of_decide_eq_true (by rfl)) (by rfl) (by rfl) (by rfl))) (hs.get 2 rfl))
    · exact core_pureAs _ (by rfl)
    · exact coreS _ _ _ _ _ _ _ (by rfl) (by rfl) (wants_core 5 22 5 _ _ _ (by rfl) (by rfl) (by rfl) (known_core 5 22 _ _ (of_decide_eq_true (by rfl)) (by rfl) (by rfl) (by rfl)) _ (by rfl)) (fun ρ w kn hs => o_bin (u := .int .i64 (cmpN B Q)) (v := .int .i64 0) (fun ρ hx hy => by simp only [execOp, hx, hy]; simp [go_sem]; exact hb) (kn _ _ (known_core 9 26 _ _ (of_decide_eq_true (by rfl)) (by rfl) (by rfl) (by rfl))) (kn _ _ (known_const _)))
    · exact coreS _ _ _ _ _ _ _ (by rfl) (by rfl) (wants_none) (fun ρ w kn hs => o_pick (b := false) (r := .bool false) (kn _ _ (known_core 5 22 _ _ (of_decide_eq_true (by rfl)) (by rfl) (by rfl) (by rfl))) (kn _ _ (known_const _)) (kn _ _ (known_core 10 27 _ _ (of_decide_eq_true (by rfl)) (by rfl) (by rfl) (by rfl))) rfl)
    · exact coreS _ _ _ _ _ _ _ (by rfl) (by rfl) (wants_none) (fun ρ w kn hs => o_move (kn _ _ (known_core 11 28 _ _ (of_decide_eq_true (by rfl)) (by rfl) (by rfl) (by rfl))))
    · exact coreS _ _ _ _ _ _ _ (by rfl) (by rfl) (wants_core 12 29 12 _ _ _ (by rfl) (by rfl) (by rfl) (known_core 12 29 _ _ (of_decide_eq_true (by rfl)) (by rfl) (by rfl) (by rfl)) _ (by rfl)) (fun ρ w kn hs => o_fieldG1 (kn _ _ (F.old (by rfl) rfl)))
    · exact coreS _ _ _ _ _ _ _ (by rfl) (by rfl) (wants_core 12 29 12 _ _ _ (by rfl) (by rfl) (by rfl) (known_core 12 29 _ _ (of_decide_eq_true (by rfl)) (by rfl) (by rfl) (by rfl)) _ (by rfl)) (fun ρ w kn hs => o_loadG1 (kn _ _ (known_core 13 30 _ _ (of_decide_eq_true (by rfl)) (by rfl) (by rfl) (by rfl))) (hs.get 2 rfl))
    · exact core_pureAs _ (by rfl)
    · exact core_pureAs _ (by rfl)
    · exact coreS _ _ _ _ _ _ _ (by rfl) (by rfl) (wants_core 12 29 12 _ _ _ (by rfl) (by rfl) (by rfl) (known_core 12 29 _ _ (of_decide_eq_true (by rfl)) (by rfl) (by rfl) (by rfl)) _ (by rfl)) (fun ρ w kn hs => o_bin (u := .int .i64 (cmpN Q 1)) (v := .int .i64 0) (fun ρ hx hy => by simp only [execOp, hx, hy]; simp [go_sem]; exact hk) (kn _ _ (known_core 16 33 _ _ (of_decide_eq_true (by rfl)) (by rfl) (by rfl) (by rfl))) (kn _ _ (known_const _)))
    · exact coreS _ _ _ _ _ _ _ (by rfl) (by rfl) (wants_none) (fun ρ w kn hs => o_pick (b := false) (r := .bool false) (kn _ _ (known_core 12 29 _ _ (of_decide_eq_true (by rfl)) (by rfl) (by rfl) (by rfl))) (kn _ _ (known_const _)) (kn _ _ (known_core 17 34 _ _ (of_decide_eq_true (by rfl)) (by rfl) (by rfl) (by rfl))) rfl)
  · refine all_cons ?_ (all_cons ?_ (all_cons ?_ (all_cons ?_ (all_cons ?_ (all_cons ?_ (all_cons ?_ (all_cons ?_ (all_cons ?_ (all_cons ?_ (all_cons ?_ (all_cons ?_ (all_cons ?_ (all_cons ?_ (all_cons ?_ (all_cons ?_ (all_cons ?_ (all_cons ?_ (all_cons ?_ (all_nil)))))))))))))))))))
    · exact core_stepAs _ (by rfl)
    · exact core_stepAs _ (by rfl)
    · exact core_stepAs _ (by rfl)
    · exact fun _ => coreG_call _ 24 _ _ [.tmp 17, .tmp 19] _ _ _ _ _ _ _ (by rfl) Try.func24 (by kernel_rfl) (by rfl) (by rfl) (wants_none) (.cons (known_core 0 17 _ _ (of_decide_eq_true (by rfl)) (by rfl) (by rfl) (by rfl)) (.cons (known_core 2 19 _ _ (of_decide_eq_true (by rfl)) (by rfl) (by rfl) (by rfl)) .nil)) ((fun w => cmp_any A Q hA hQ w))
    · exact core_stepAs _ (by rfl)
    · exact core_stepAs _ (by rfl)
    · exact core_stepAs _ (by rfl)
    · exact core_stepAs _ (by rfl)
    · exact core_stepAs _ (by rfl)
    · exact fun _ => coreG_call _ 24 _ _ [.tmp 23, .tmp 25] _ _ _ _ _ _ _ (by rfl) Try.func24 (by kernel_rfl) (by rfl) (by rfl) (wants_core 5 22 5 _ _ _ (by rfl) (by rfl) (by rfl) (known_core 5 22 _ _ (of_decide_eq_true (by rfl)) (by rfl) (by rfl) (by rfl)) _ (by rfl)) (.cons (known_core 6 23 _ _ (of_decide_eq_true (by rfl)) (by rfl) (by rfl) (by rfl)) (.cons (known_core 8 25 _ _ (of_decide_eq_true (by rfl)) (by rfl) (by rfl) (by rfl)) .nil)) ((fun w => cmp_any B Q hB hQ w))
    · exact core_stepAs _ (by rfl)
    · exact core_stepAs _ (by rfl)
    · exact core_stepAs _ (by rfl)
    · exact core_stepAs _ (by rfl)
    · exact core_stepAs _ (by rfl)
    · exact fun _ => coreG_call _ 25 _ _ [.const (.int .u64 1)] _ _ _ _ _ _ _ (by rfl) Try.func25 (by kernel_rfl) (by rfl) (by rfl) (wants_core 12 29 12 _ _ _ (by rfl) (by rfl) (by rfl) (known_core 12 29 _ _ (of_decide_eq_true (by rfl)) (by rfl) (by rfl) (by rfl)) _ (by rfl)) (.cons (known_const _) .nil) ((fun w => of9_any 1 (by decide) w))
    · exact fun _ => coreG_call _ 24 _ _ [.tmp 31, .tmp 32] _ _ _ _ _ _ _ (by rfl) Try.func24 (by kernel_rfl) (by rfl) (by rfl) (wants_core 12 29 12 _ _ _ (by rfl) (by rfl) (by rfl) (known_core 12 29 _ _ (of_decide_eq_true (by rfl)) (by rfl) (by rfl) (by rfl)) _ (by rfl)) (.cons (known_core 14 31 _ _ (of_decide_eq_true (by rfl)) (by rfl) (by rfl) (by rfl)) (.cons (known_core 15 32 _ _ (of_decide_eq_true (by rfl)) (by rfl) (by rfl) (by rfl)) .nil)) ((fun w => cmp_any Q 1 hQ (by decide) w))
    · exact core_stepAs _ (by rfl)
    · exact core_stepAs _ (by rfl)
  intro gs rs a w hgs hrs F HM
  obtain rfl := nl0 rs hrs
  clear hrs
  obtain rfl := nl0 gs hgs
  clear hgs
  refine sx_done (by kernel_rfl) ?_ _
  repeat (first | refine ex_then ?_ | refine ex_block ?_ | refine wp_seq ?_ | refine wp_block ?_ | refine wp_skip ?_)
  refine wp_cond_false (F.ev rfl) ?_
  repeat (first | refine ex_then ?_ | refine ex_block ?_ | refine wp_seq ?_ | refine wp_block ?_ | refine wp_skip ?_)
  refine wp_region_lit ?_
  refine lx_value (v := grp P Q G H) F (wanted_none rfl _) rfl (by rfl) (o_loadG (F.ev rfl) (HM.get 2 rfl)) fun a F => ?_
  refine lx_value (v := num A) F (wanted_none rfl _) rfl (by rfl) (o_loadN (F.ev rfl) (HM.get 1 rfl)) fun a F => ?_
  refine lx_value (v := num B) F (wanted_none rfl _) rfl (by rfl) (o_loadN (F.ev rfl) (HM.get 0 rfl)) fun a F => ?_
  refine lx_call F (wanted_none rfl _) rfl (by rfl) (run_callF Try.func14 (by kernel_rfl) (by rfl) (.cons (F.ev rfl) (.cons (F.ev rfl) (.cons (F.ev rfl) .nil))) _) (c1 _) fun a w z F => ?_
  replace HM := HM.on z
  clear z
  refine lx_value (v := .tuple #[num S, .int .i64 0]) F (wanted_none rfl _) rfl (by rfl) (o_move (F.ev rfl)) fun a F => ?_
  refine lx_value (v := num S) F (wanted_none rfl _) rfl (by rfl) (o_extract (F.ev rfl) rfl) fun a F => ?_
  refine lx_value (v := .int .i64 0) F (wanted_none rfl _) rfl (by rfl) (o_extract (F.ev rfl) rfl) fun a F => ?_
  refine lx_new F HM (wanted_none rfl _) rfl (by rfl) (o_allocN) fun a w gs F HM => ?_
  refine lx_store F HM (wanted_none rfl _) rfl (k := 0) rfl (o_storeN (F.ev rfl) (F.ev rfl) (HM.get 0 rfl)) (M2 := [(gs, 24, ncs S), (gb, 24, ncs B), (ga, 24, ncs A), (gg, 35, gcs P Q G H)]) rfl fun w HM => ?_
  refine lx_value (v := .int .i64 0) F (wanted_none rfl _) rfl (by rfl) (o_assign (F.ev rfl)) fun a F => ?_
  refine lx_nil ?_
  repeat (first | refine ex_then ?_ | refine ex_block ?_ | refine wp_seq ?_ | refine wp_block ?_ | refine wp_skip ?_)
  refine wp_region_lit ?_
  refine lx_value (v := grp P Q G H) F (wanted_none rfl _) rfl (by rfl) (o_loadG (F.ev rfl) (HM.get 3 rfl)) fun a F => ?_
  refine lx_value (v := num S) F (wanted_none rfl _) rfl (by rfl) (o_loadN (F.ev rfl) (HM.get 0 rfl)) fun a F => ?_
  refine lx_value (v := num B) F (wanted_none rfl _) rfl (by rfl) (o_loadN (F.ev rfl) (HM.get 1 rfl)) fun a F => ?_
  refine lx_call F (wanted_none rfl _) rfl (by rfl) (run_callF Try.func15 (by kernel_rfl) (by rfl) (.cons (F.ev rfl) (.cons (F.ev rfl) (.cons (F.ev rfl) .nil))) _) (c2 _) fun a w z F => ?_
  replace HM := HM.on z
  clear z
  refine lx_value (v := .tuple #[num A, .int .i64 0]) F (wanted_none rfl _) rfl (by rfl) (o_move (F.ev rfl)) fun a F => ?_
  refine lx_value (v := num A) F (wanted_none rfl _) rfl (by rfl) (o_extract (F.ev rfl) rfl) fun a F => ?_
  refine lx_value (v := .int .i64 0) F (wanted_none rfl _) rfl (by rfl) (o_extract (F.ev rfl) rfl) fun a F => ?_
  refine lx_new F HM (wanted_none rfl _) rfl (by rfl) (o_allocN) fun a w gk F HM => ?_
  refine lx_store F HM (wanted_none rfl _) rfl (k := 0) rfl (o_storeN (F.ev rfl) (F.ev rfl) (HM.get 0 rfl)) (M2 := [(gk, 24, ncs A), (gs, 24, ncs S), (gb, 24, ncs B), (ga, 24, ncs A), (gg, 35, gcs P Q G H)]) rfl fun w HM => ?_
  refine lx_value (v := .int .i64 0) F (wanted_none rfl _) rfl (by rfl) (o_assign (F.ev rfl)) fun a F => ?_
  refine lx_nil ?_
  repeat (first | refine ex_then ?_ | refine ex_block ?_ | refine wp_seq ?_ | refine wp_block ?_ | refine wp_skip ?_)
  refine wp_region_lit ?_
  refine lx_value (v := .int .i64 0) F (wanted_none rfl _) rfl (by rfl) (o_move (F.ev rfl)) fun a F => ?_
  refine lx_value (v := .bool false) F (wanted_none rfl _) rfl (by rfl) (o_bin (u := .int .i64 0) (v := .int .i64 0) (fun ρ hx hy => by simp only [execOp, hx, hy]; simp [go_sem]) (F.ev rfl) rfl) fun a F => ?_
  refine lx_value (v := .bool false) F (wanted_none rfl _) rfl (by rfl) (o_move (F.ev rfl)) fun a F => ?_
  refine lx_value (v := .int .i64 0) F (F.want (t := 53) (c := false) rfl rfl rfl (by rfl) rfl) rfl (by rfl) (o_move (F.ev rfl)) fun a F => ?_
  refine lx_value (v := .bool false) F (F.want (t := 53) (c := false) rfl rfl rfl (by rfl) rfl) rfl (by rfl) (o_bin (u := .int .i64 0) (v := .int .i64 0) (fun ρ hx hy => by simp only [execOp, hx, hy]; simp [go_sem]) (F.ev rfl) rfl) fun a F => ?_
  refine lx_value (v := .bool false) F (wanted_none rfl _) rfl (by rfl) (o_pick (b := false) (r := .bool false) (F.ev rfl) rfl (F.ev rfl) rfl) fun a F => ?_
  refine lx_value (v := .bool false) F (wanted_none rfl _) rfl (by rfl) (o_move (F.ev rfl)) fun a F => ?_
  refine lx_value (v := num A) F (F.want (t := 57) (c := false) rfl rfl rfl (by rfl) rfl) rfl (by rfl) (o_loadN (F.ev rfl) (HM.get 0 rfl)) fun a F => ?_
  refine lx_value (v := num A) F (F.want (t := 57) (c := false) rfl rfl rfl (by rfl) rfl) rfl (by rfl) (o_loadN (F.ev rfl) (HM.get 3 rfl)) fun a F => ?_
  refine lx_value (v := .bool false) F (F.want (t := 57) (c := false) rfl rfl rfl (by rfl) rfl) rfl (by rfl) (o_neqS (F.ev rfl) (F.ev rfl)) fun a F => ?_
  refine lx_value (v := .bool false) F (wanted_none rfl _) rfl (by rfl) (o_pick (b := false) (r := .bool false) (F.ev rfl) rfl (F.ev rfl) rfl) fun a F => ?_
  refine lx_nil ?_
  repeat (first | refine ex_then ?_ | refine ex_block ?_ | refine wp_seq ?_ | refine wp_block ?_ | refine wp_skip ?_)
  refine wp_cond_false (F.ev rfl) ?_
  repeat (first | refine ex_then ?_ | refine ex_block ?_ | refine wp_seq ?_ | refine wp_block ?_ | refine wp_skip ?_)
  refine wp_region_lit ?_
  refine lx_value (v := grp P Q G H) F (wanted_none rfl _) rfl (by rfl) (o_loadG (F.ev rfl) (HM.get 4 rfl)) fun a F => ?_
  refine lx_value (v := num B) F (wanted_none rfl _) rfl (by rfl) (o_loadN (F.ev rfl) (HM.get 2 rfl)) fun a F => ?_
  refine lx_call F (wanted_none rfl _) rfl (by rfl) (run_callF Try.func17 (by kernel_rfl) (by rfl) (.cons (F.ev rfl) (.cons (F.ev rfl) .nil)) _) (c3 _) fun a w z F => ?_
  replace HM := HM.on z
  clear z
  refine lx_value (v := .tuple #[num V, .int .i64 0]) F (wanted_none rfl _) rfl (by rfl) (o_move (F.ev rfl)) fun a F => ?_
  refine lx_value (v := num V) F (wanted_none rfl _) rfl (by rfl) (o_extract (F.ev rfl) rfl) fun a F => ?_
  refine lx_value (v := .int .i64 0) F (wanted_none rfl _) rfl (by rfl) (o_extract (F.ev rfl) rfl) fun a F => ?_
  refine lx_new F HM (wanted_none rfl _) rfl (by rfl) (o_allocN) fun a w gi F HM => ?_
  refine lx_store F HM (wanted_none rfl _) rfl (k := 0) rfl (o_storeN (F.ev rfl) (F.ev rfl) (HM.get 0 rfl)) (M2 := [(gi, 24, ncs V), (gk, 24, ncs A), (gs, 24, ncs S), (gb, 24, ncs B), (ga, 24, ncs A), (gg, 35, gcs P Q G H)]) rfl fun w HM => ?_
  refine lx_value (v := .int .i64 0) F (wanted_none rfl _) rfl (by rfl) (o_assign (F.ev rfl)) fun a F => ?_
  refine lx_nil ?_
  repeat (first | refine ex_then ?_ | refine ex_block ?_ | refine wp_seq ?_ | refine wp_block ?_ | refine wp_skip ?_)
  refine wp_region_lit ?_
  refine lx_value (v := .int .i64 0) F (wanted_none rfl _) rfl (by rfl) (o_move (F.ev rfl)) fun a F => ?_
  refine lx_value (v := .bool false) F (wanted_none rfl _) rfl (by rfl) (o_bin (u := .int .i64 0) (v := .int .i64 0) (fun ρ hx hy => by simp only [execOp, hx, hy]; simp [go_sem]) (F.ev rfl) rfl) fun a F => ?_
  refine lx_nil ?_
  repeat (first | refine ex_then ?_ | refine ex_block ?_ | refine wp_seq ?_ | refine wp_block ?_ | refine wp_skip ?_)
  refine wp_cond_false (F.ev rfl) ?_
  repeat (first | refine ex_then ?_ | refine ex_block ?_ | refine wp_seq ?_ | refine wp_block ?_ | refine wp_skip ?_)
  refine wp_region_lit ?_
  refine lx_value (v := grp P Q G H) F (wanted_none rfl _) rfl (by rfl) (o_loadG (F.ev rfl) (HM.get 5 rfl)) fun a F => ?_
  refine lx_value (v := num A) F (wanted_none rfl _) rfl (by rfl) (o_loadN (F.ev rfl) (HM.get 4 rfl)) fun a F => ?_
  refine lx_value (v := num B) F (wanted_none rfl _) rfl (by rfl) (o_loadN (F.ev rfl) (HM.get 3 rfl)) fun a F => ?_
  refine lx_call F (wanted_none rfl _) rfl (by rfl) (run_callF Try.func16 (by kernel_rfl) (by rfl) (.cons (F.ev rfl) (.cons (F.ev rfl) (.cons (F.ev rfl) .nil))) _) (c4 _) fun a w z F => ?_
  replace HM := HM.on z
  clear z
  refine lx_value (v := .tuple #[num M, .int .i64 0]) F (wanted_none rfl _) rfl (by rfl) (o_move (F.ev rfl)) fun a F => ?_
  refine lx_value (v := num M) F (wanted_none rfl _) rfl (by rfl) (o_extract (F.ev rfl) rfl) fun a F => ?_
  refine lx_value (v := .int .i64 0) F (wanted_none rfl _) rfl (by rfl) (o_extract (F.ev rfl) rfl) fun a F => ?_
  refine lx_new F HM (wanted_none rfl _) rfl (by rfl) (o_allocN) fun a w gp F HM => ?_
  refine lx_store F HM (wanted_none rfl _) rfl (k := 0) rfl (o_storeN (F.ev rfl) (F.ev rfl) (HM.get 0 rfl)) (M2 := [(gp, 24, ncs M), (gi, 24, ncs V), (gk, 24, ncs A), (gs, 24, ncs S), (gb, 24, ncs B), (ga, 24, ncs A), (gg, 35, gcs P Q G H)]) rfl fun w HM => ?_
  refine lx_value (v := .int .i64 0) F (wanted_none rfl _) rfl (by rfl) (o_assign (F.ev rfl)) fun a F => ?_
  refine lx_nil ?_
  repeat (first | refine ex_then ?_ | refine ex_block ?_ | refine wp_seq ?_ | refine wp_block ?_ | refine wp_skip ?_)
  refine wp_region_lit ?_
  refine lx_value (v := grp P Q G H) F (wanted_none rfl _) rfl (by rfl) (o_loadG (F.ev rfl) (HM.get 6 rfl)) fun a F => ?_
  refine lx_value (v := num M) F (wanted_none rfl _) rfl (by rfl) (o_loadN (F.ev rfl) (HM.get 0 rfl)) fun a F => ?_
  refine lx_value (v := num V) F (wanted_none rfl _) rfl (by rfl) (o_loadN (F.ev rfl) (HM.get 1 rfl)) fun a F => ?_
  refine lx_call F (wanted_none rfl _) rfl (by rfl) (run_callF Try.func16 (by kernel_rfl) (by rfl) (.cons (F.ev rfl) (.cons (F.ev rfl) (.cons (F.ev rfl) .nil))) _) (c5 _) fun a w z F => ?_
  replace HM := HM.on z
  clear z
  refine lx_value (v := .tuple #[num A, .int .i64 0]) F (wanted_none rfl _) rfl (by rfl) (o_move (F.ev rfl)) fun a F => ?_
  refine lx_value (v := num A) F (wanted_none rfl _) rfl (by rfl) (o_extract (F.ev rfl) rfl) fun a F => ?_
  refine lx_value (v := .int .i64 0) F (wanted_none rfl _) rfl (by rfl) (o_extract (F.ev rfl) rfl) fun a F => ?_
  refine lx_new F HM (wanted_none rfl _) rfl (by rfl) (o_allocN) fun a w gt F HM => ?_
  refine lx_store F HM (wanted_none rfl _) rfl (k := 0) rfl (o_storeN (F.ev rfl) (F.ev rfl) (HM.get 0 rfl)) (M2 := [(gt, 24, ncs A), (gp, 24, ncs M), (gi, 24, ncs V), (gk, 24, ncs A), (gs, 24, ncs S), (gb, 24, ncs B), (ga, 24, ncs A), (gg, 35, gcs P Q G H)]) rfl fun w HM => ?_
  refine lx_value (v := .int .i64 0) F (wanted_none rfl _) rfl (by rfl) (o_assign (F.ev rfl)) fun a F => ?_
  refine lx_nil ?_
  repeat (first | refine ex_then ?_ | refine ex_block ?_ | refine wp_seq ?_ | refine wp_block ?_ | refine wp_skip ?_)
  refine wp_region_lit ?_
  refine lx_call F (wanted_none rfl _) rfl (by rfl) (run_callF Try.func26 (by kernel_rfl) (by rfl) .nil _) (alive9_any _) fun a w z F => ?_
  replace HM := HM.on z
  clear z
  refine lx_value (v := .bool true) F (wanted_none rfl _) rfl (by rfl) (o_move (F.ev rfl)) fun a F => ?_
  refine lx_value (v := .int .i64 0) F (F.want (t := 90) (c := true) rfl rfl rfl (by rfl) rfl) rfl (by rfl) (o_move (F.ev rfl)) fun a F => ?_
  refine lx_value (v := .bool true) F (F.want (t := 90) (c := true) rfl rfl rfl (by rfl) rfl) rfl (by rfl) (o_bin (u := .int .i64 0) (v := .int .i64 0) (fun ρ hx hy => by simp only [execOp, hx, hy]; simp [go_sem]) (F.ev rfl) rfl) fun a F => ?_
  refine lx_value (v := .bool true) F (wanted_none rfl _) rfl (by rfl) (o_pick (b := true) (r := .bool true) (F.ev rfl) (F.ev rfl) rfl rfl) fun a F => ?_
  refine lx_value (v := .bool true) F (wanted_none rfl _) rfl (by rfl) (o_move (F.ev rfl)) fun a F => ?_
  refine lx_value (v := .int .i64 0) F (F.want (t := 94) (c := true) rfl rfl rfl (by rfl) rfl) rfl (by rfl) (o_move (F.ev rfl)) fun a F => ?_
  refine lx_value (v := .bool true) F (F.want (t := 94) (c := true) rfl rfl rfl (by rfl) rfl) rfl (by rfl) (o_bin (u := .int .i64 0) (v := .int .i64 0) (fun ρ hx hy => by simp only [execOp, hx, hy]; simp [go_sem]) (F.ev rfl) rfl) fun a F => ?_
  refine lx_value (v := .bool true) F (wanted_none rfl _) rfl (by rfl) (o_pick (b := true) (r := .bool true) (F.ev rfl) (F.ev rfl) rfl rfl) fun a F => ?_
  refine lx_value (v := .bool true) F (wanted_none rfl _) rfl (by rfl) (o_move (F.ev rfl)) fun a F => ?_
  refine lx_value (v := num A) F (F.want (t := 98) (c := true) rfl rfl rfl (by rfl) rfl) rfl (by rfl) (o_loadN (F.ev rfl) (HM.get 0 rfl)) fun a F => ?_
  refine lx_value (v := num A) F (F.want (t := 98) (c := true) rfl rfl rfl (by rfl) rfl) rfl (by rfl) (o_loadN (F.ev rfl) (HM.get 6 rfl)) fun a F => ?_
  refine lx_value (v := .bool true) F (F.want (t := 98) (c := true) rfl rfl rfl (by rfl) rfl) rfl (by rfl) (o_eqlS (F.ev rfl) (F.ev rfl)) fun a F => ?_
  refine lx_value (v := .bool true) F (wanted_none rfl _) rfl (by rfl) (o_pick (b := true) (r := .bool true) (F.ev rfl) (F.ev rfl) rfl rfl) fun a F => ?_
  refine lx_value (v := .bool true) F (wanted_none rfl _) rfl (by rfl) (o_assign (F.ev rfl)) fun a F => ?_
  refine lx_nil ?_
  repeat (first | refine ex_then ?_ | refine ex_block ?_ | refine wp_seq ?_ | refine wp_block ?_ | refine wp_skip ?_)
  refine wp_ret ?_
  repeat (first | refine ex_thenR ?_ | refine ex_blockR ?_)
  exact sx_ret F HM (res_tmp F rfl (s := 6) rfl)

theorem undo_walk (P Q G H A B : Nat) (hQ : Q < 2 ^ 256) (hA : A < 2 ^ 256) (hB : B < 2 ^ 256) (w : World) : Calls Try.prog 7 #[grp P Q G H, num A, num B] w fun e w' => e = .returned (.bool true) ∧ Below w.heap.size w w' := by
  by_cases ha : A < Q
  case neg => exact undo_a P Q G H A B hQ hA hB (cmpN_ge (by omega)) w
  by_cases hb : B < Q
  case neg => exact undo_b P Q G H A B hQ hA hB (cmpN_neg ha) (cmpN_ge (by omega)) w
  by_cases h1 : 1 < Q
  case neg => exact undo_q P Q G H A B hQ hA hB (cmpN_neg ha) (cmpN_neg hb) (cmpN_le (by omega)) w
  have lt : ∀ n, n % Q < Q := fun n => Nat.mod_lt _ (by omega)
  have c1 := sadd_yes P Q G H A B hQ h1 ha hb
  have c2 := ssub_yes P Q G H ((A + B) % Q) B hQ h1 (lt _) hb
  rw [show ((A + B) % Q + Q - B) % Q = A from by
    by_cases h : A + B < Q
    · rw [Nat.mod_eq_of_lt h, show A + B + Q - B = A + Q by omega, Nat.add_mod_right, Nat.mod_eq_of_lt ha]
    · have e : (A + B) % Q = A + B - Q := by rw [Nat.mod_eq_sub_mod (by omega), Nat.mod_eq_of_lt (by omega)]
      rw [e, show A + B - Q + Q - B = A by omega, Nat.mod_eq_of_lt ha]] at c2
  by_cases hg : Nat.gcd B Q = 1
  case neg => exact undo_none P Q G H A B _ hQ hA hB (cmpN_neg ha) (cmpN_neg hb) (cmpN_pos h1) c1 c2 (sinv_none P Q G H B hQ h1 hb hg) w
  obtain ⟨V, hV, hBV⟩ := inv_there B Q h1 hg
  have c5 := smul_yes P Q G H (A * B % Q) V hQ h1 (lt _) hV
  rw [show A * B % Q * V % Q = A from by rw [Nat.mod_mul_mod, Nat.mul_assoc, Nat.mul_mod, hBV, Nat.mul_one, Nat.mod_mod, Nat.mod_eq_of_lt ha]] at c5
  exact undo_some P Q G H A B _ V _ hQ hA hB (cmpN_neg ha) (cmpN_neg hb) (cmpN_pos h1) c1 c2 (sinv_yes P Q G H B V hQ h1 hb hV hBV) (smul_yes P Q G H A B hQ h1 ha hb) c5 w
end Go.Proofs.Ytodlpmepoakdlaa
