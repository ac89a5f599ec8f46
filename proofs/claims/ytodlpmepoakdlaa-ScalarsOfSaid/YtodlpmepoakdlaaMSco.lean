/-
 ScalarsOf: walked.
-/
import Derived.Deep.Cut
import Derived.Test.YtodlpmepoakdlaaMSc4
import Derived.Test.YtodlpmepoakdlaaMTree
namespace Go.Proofs.Ytodlpmepoakdlaa
set_option maxRecDepth 100000
open Go.RowKit
set_option linter.unusedSimpArgs false
set_option linter.unusedVariables false
attribute [local go_sem ↓] Go.wp_at_zero Go.wp_at_succ

set_option maxRecDepth 100000 in
set_option maxHeartbeats 8000000 in
theorem sco_w (P Q G H X Y x y z v V : Nat) (n e1 e2 e3 e4 : Int)
  (m1 : ∀ w, Calls Try.prog 14 #[grp P Q G H, num X, num Y] w fun e w' => e = .returned (.tuple #[num x, .int .i64 e1]) ∧ Below w.heap.size w w')
  (m2 : ∀ w, Calls Try.prog 15 #[grp P Q G H, num X, num Y] w fun e w' => e = .returned (.tuple #[num y, .int .i64 e2]) ∧ Below w.heap.size w w')
  (m3 : ∀ w, Calls Try.prog 16 #[grp P Q G H, num X, num Y] w fun e w' => e = .returned (.tuple #[num z, .int .i64 e3]) ∧ Below w.heap.size w w')
  (m4 : ∀ w, Calls Try.prog 17 #[grp P Q G H, num X] w fun e w' => e = .returned (.tuple #[num v, .int .i64 e4]) ∧ Below w.heap.size w w')
  (n1 : ∀ w, Calls Try.prog 18 #[grp P Q G H, num X, num Y] w fun e w' => e = .returned (.tuple #[num x, .int .i64 e1]) ∧ Below w.heap.size w w')
  (n2 : ∀ w, Calls Try.prog 19 #[grp P Q G H, num X, num Y] w fun e w' => e = .returned (.tuple #[num y, .int .i64 e2]) ∧ Below w.heap.size w w')
  (n3 : ∀ w, Calls Try.prog 20 #[grp P Q G H, num X, num Y] w fun e w' => e = .returned (.tuple #[num z, .int .i64 e3]) ∧ Below w.heap.size w w')
  (n4 : ∀ w, Calls Try.prog 21 #[grp P Q G H, num X] w fun e w' => e = .returned (.tuple #[num v, .int .i64 e4]) ∧ Below w.heap.size w w')
  (s1 : ∀ w, Calls Try.prog 22 #[grp P Q G H, .int .i64 n] w fun e w' => e = .returned (num V) ∧ Below w.heap.size w w')
  (s2 : ∀ w, Calls Try.prog 23 #[grp P Q G H, .int .i64 n] w fun e w' => e = .returned (num V) ∧ Below w.heap.size w w')
  (w : World) : Calls Try.prog 4 #[grp P Q G H, arr2 X Y, .int .i64 n] w fun e w' => e = .returned (.bool true) ∧ Below w.heap.size w w' := by
 refine sx_enter (args := [grp P Q G H, arr2 X Y, .int .i64 n]) Try.func4 rfl Try.ntmps4 (by rfl) fun a F HM => ?_
 repeat (first | refine ex_then ?_ | refine ex_block ?_ | refine wp_seq ?_ | refine wp_block ?_ | refine wp_skip ?_)
 refine wp_region_lit ?_
 refine lx_new F HM (wanted_none rfl _) rfl (by rfl) (o_boxG (F.ev rfl)) fun a w gg F HM => ?_
 refine lx_new F HM (wanted_none rfl _) rfl (by rfl) (o_boxA (F.ev rfl)) fun a w gl F HM => ?_
 refine lx_value (v := .bool false) F (wanted_none rfl _) rfl (by rfl) (o_assign rfl) fun a F => ?_
 refine lx_nil ?_
 repeat (first | refine ex_then ?_ | refine ex_block ?_ | refine wp_seq ?_ | refine wp_block ?_ | refine wp_skip ?_)
 refine wp_region_lit ?_
 refine lx_value (v := grp P Q G H) F (wanted_none rfl _) rfl (by rfl) (o_loadG (F.ev rfl) (HM.get 1 rfl)) fun a F => ?_
 refine lx_value (v := .pointer (some ⟨gl, 0, none⟩)) F (wanted_none rfl _) rfl (by rfl) (o_idxA0 (F.ev rfl) rfl) fun a F => ?_
 refine lx_value (v := num X) F (wanted_none rfl _) rfl (by rfl) (o_loadA0 (F.ev rfl) (HM.get 0 rfl)) fun a F => ?_
 refine lx_value (v := .pointer (some ⟨gl, 4, none⟩)) F (wanted_none rfl _) rfl (by rfl) (o_idxA1 (F.ev rfl) rfl) fun a F => ?_
 refine lx_value (v := num Y) F (wanted_none rfl _) rfl (by rfl) (o_loadA1 (F.ev rfl) (HM.get 0 rfl)) fun a F => ?_
 refine lx_call F (wanted_none rfl _) rfl (by rfl) (run_callF Try.func14 (by kernel_rfl) (by rfl) (.cons (F.ev rfl) (.cons (F.ev rfl) (.cons (F.ev rfl) .nil))) _) (m1 _) fun a w z F => ?_
 replace HM := HM.on z
 clear z
 refine lx_value (v := .tuple #[num x, .int .i64 e1]) F (wanted_none rfl _) rfl (by rfl) (o_move (F.ev rfl)) fun a F => ?_
 refine lx_value (v := num x) F (wanted_none rfl _) rfl (by rfl) (o_extract (F.ev rfl) rfl) fun a F => ?_
 refine lx_value (v := .int .i64 e1) F (wanted_none rfl _) rfl (by rfl) (o_extract (F.ev rfl) rfl) fun a F => ?_
 refine lx_new F HM (wanted_none rfl _) rfl (by rfl) (o_allocN) fun a w gx F HM => ?_
 refine lx_store F HM (wanted_none rfl _) rfl (k := 0) rfl (o_storeN (F.ev rfl) (F.ev rfl) (HM.get 0 rfl)) (M2 := [(gx, 24, ncs x), (gl, 36, acs X Y), (gg, 35, gcs P Q G H)]) rfl fun w HM => ?_
 refine lx_value (v := .int .i64 e1) F (wanted_none rfl _) rfl (by rfl) (o_assign (F.ev rfl)) fun a F => ?_
 refine lx_nil ?_
 repeat (first | refine ex_then ?_ | refine ex_block ?_ | refine wp_seq ?_ | refine wp_block ?_ | refine wp_skip ?_)
 refine wp_region_lit ?_
 refine lx_value (v := grp P Q G H) F (wanted_none rfl _) rfl (by rfl) (o_loadG (F.ev rfl) (HM.get 2 rfl)) fun a F => ?_
 refine lx_value (v := .pointer (some ⟨gl, 0, none⟩)) F (wanted_none rfl _) rfl (by rfl) (o_idxA0 (F.ev rfl) rfl) fun a F => ?_
 refine lx_value (v := num X) F (wanted_none rfl _) rfl (by rfl) (o_loadA0 (F.ev rfl) (HM.get 1 rfl)) fun a F => ?_
 refine lx_value (v := .pointer (some ⟨gl, 4, none⟩)) F (wanted_none rfl _) rfl (by rfl) (o_idxA1 (F.ev rfl) rfl) fun a F => ?_
 refine lx_value (v := num Y) F (wanted_none rfl _) rfl (by rfl) (o_loadA1 (F.ev rfl) (HM.get 1 rfl)) fun a F => ?_
 refine lx_call F (wanted_none rfl _) rfl (by rfl) (run_callF Try.func15 (by kernel_rfl) (by rfl) (.cons (F.ev rfl) (.cons (F.ev rfl) (.cons (F.ev rfl) .nil))) _) (m2 _) fun a w z F => ?_
 replace HM := HM.on z
 clear z
 refine lx_value (v := .tuple #[num y, .int .i64 e2]) F (wanted_none rfl _) rfl (by rfl) (o_move (F.ev rfl)) fun a F => ?_
 refine lx_value (v := num y) F (wanted_none rfl _) rfl (by rfl) (o_extract (F.ev rfl) rfl) fun a F => ?_
 refine lx_value (v := .int .i64 e2) F (wanted_none rfl _) rfl (by rfl) (o_extract (F.ev rfl) rfl) fun a F => ?_
 refine lx_new F HM (wanted_none rfl _) rfl (by rfl) (o_allocN) fun a w gy F HM => ?_
 refine lx_store F HM (wanted_none rfl _) rfl (k := 0) rfl (o_storeN (F.ev rfl) (F.ev rfl) (HM.get 0 rfl)) (M2 := [(gy, 24, ncs y), (gx, 24, ncs x), (gl, 36, acs X Y), (gg, 35, gcs P Q G H)]) rfl fun w HM => ?_
 refine lx_value (v := .int .i64 e2) F (wanted_none rfl _) rfl (by rfl) (o_assign (F.ev rfl)) fun a F => ?_
 refine lx_nil ?_
 repeat (first | refine ex_then ?_ | refine ex_block ?_ | refine wp_seq ?_ | refine wp_block ?_ | refine wp_skip ?_)
 refine wp_region_lit ?_
 refine lx_value (v := grp P Q G H) F (wanted_none rfl _) rfl (by rfl) (o_loadG (F.ev rfl) (HM.get 3 rfl)) fun a F => ?_
 refine lx_value (v := .pointer (some ⟨gl, 0, none⟩)) F (wanted_none rfl _) rfl (by rfl) (o_idxA0 (F.ev rfl) rfl) fun a F => ?_
 refine lx_value (v := num X) F (wanted_none rfl _) rfl (by rfl) (o_loadA0 (F.ev rfl) (HM.get 2 rfl)) fun a F => ?_
 refine lx_value (v := .pointer (some ⟨gl, 4, none⟩)) F (wanted_none rfl _) rfl (by rfl) (o_idxA1 (F.ev rfl) rfl) fun a F => ?_
 refine lx_value (v := num Y) F (wanted_none rfl _) rfl (by rfl) (o_loadA1 (F.ev rfl) (HM.get 2 rfl)) fun a F => ?_
 refine lx_call F (wanted_none rfl _) rfl (by rfl) (run_callF Try.func16 (by kernel_rfl) (by rfl) (.cons (F.ev rfl) (.cons (F.ev rfl) (.cons (F.ev rfl) .nil))) _) (m3 _) fun a w z F => ?_
 replace HM := HM.on z
 clear z
 refine lx_value (v := .tuple #[num z, .int .i64 e3]) F (wanted_none rfl _) rfl (by rfl) (o_move (F.ev rfl)) fun a F => ?_
 refine lx_value (v := num z) F (wanted_none rfl _) rfl (by rfl) (o_extract (F.ev rfl) rfl) fun a F => ?_
 refine lx_value (v := .int .i64 e3) F (wanted_none rfl _) rfl (by rfl) (o_extract (F.ev rfl) rfl) fun a F => ?_
 refine lx_new F HM (wanted_none rfl _) rfl (by rfl) (o_allocN) fun a w gz F HM => ?_
 refine lx_store F HM (wanted_none rfl _) rfl (k := 0) rfl (o_storeN (F.ev rfl) (F.ev rfl) (HM.get 0 rfl)) (M2 := [(gz, 24, ncs z), (gy, 24, ncs y), (gx, 24, ncs x), (gl, 36, acs X Y), (gg, 35, gcs P Q G H)]) rfl fun w HM => ?_
 refine lx_value (v := .int .i64 e3) F (wanted_none rfl _) rfl (by rfl) (o_assign (F.ev rfl)) fun a F => ?_
 refine lx_nil ?_
 repeat (first | refine ex_then ?_ | refine ex_block ?_ | refine wp_seq ?_ | refine wp_block ?_ | refine wp_skip ?_)
 refine wp_region_lit ?_
 refine lx_value (v := grp P Q G H) F (wanted_none rfl _) rfl (by rfl) (o_loadG (F.ev rfl) (HM.get 4 rfl)) fun a F => ?_
 refine lx_value (v := .pointer (some ⟨gl, 0, none⟩)) F (wanted_none rfl _) rfl (by rfl) (o_idxA0 (F.ev rfl) rfl) fun a F => ?_
 refine lx_value (v := num X) F (wanted_none rfl _) rfl (by rfl) (o_loadA0 (F.ev rfl) (HM.get 3 rfl)) fun a F => ?_
 refine lx_call F (wanted_none rfl _) rfl (by rfl) (run_callF Try.func17 (by kernel_rfl) (by rfl) (.cons (F.ev rfl) (.cons (F.ev rfl) .nil)) _) (m4 _) fun a w z F => ?_
 replace HM := HM.on z
 clear z
 refine lx_value (v := .tuple #[num v, .int .i64 e4]) F (wanted_none rfl _) rfl (by rfl) (o_move (F.ev rfl)) fun a F => ?_
 refine lx_value (v := num v) F (wanted_none rfl _) rfl (by rfl) (o_extract (F.ev rfl) rfl) fun a F => ?_
 refine lx_value (v := .int .i64 e4) F (wanted_none rfl _) rfl (by rfl) (o_extract (F.ev rfl) rfl) fun a F => ?_
 refine lx_new F HM (wanted_none rfl _) rfl (by rfl) (o_allocN) fun a w gv F HM => ?_
 refine lx_store F HM (wanted_none rfl _) rfl (k := 0) rfl (o_storeN (F.ev rfl) (F.ev rfl) (HM.get 0 rfl)) (M2 := [(gv, 24, ncs v), (gz, 24, ncs z), (gy, 24, ncs y), (gx, 24, ncs x), (gl, 36, acs X Y), (gg, 35, gcs P Q G H)]) rfl fun w HM => ?_
 refine lx_value (v := .int .i64 e4) F (wanted_none rfl _) rfl (by rfl) (o_assign (F.ev rfl)) fun a F => ?_
 refine lx_nil ?_
 repeat (first | refine ex_then ?_ | refine ex_block ?_ | refine wp_seq ?_ | refine wp_block ?_ | refine wp_skip ?_)
 refine wp_region_lit ?_
 refine lx_value (v := grp P Q G H) F (wanted_none rfl _) rfl (by rfl) (o_loadG (F.ev rfl) (HM.get 5 rfl)) fun a F => ?_
 refine lx_value (v := .pointer (some ⟨gl, 0, none⟩)) F (wanted_none rfl _) rfl (by rfl) (o_idxA0 (F.ev rfl) rfl) fun a F => ?_
 refine lx_value (v := num X) F (wanted_none rfl _) rfl (by rfl) (o_loadA0 (F.ev rfl) (HM.get 4 rfl)) fun a F => ?_
 refine lx_value (v := .pointer (some ⟨gl, 4, none⟩)) F (wanted_none rfl _) rfl (by rfl) (o_idxA1 (F.ev rfl) rfl) fun a F => ?_
 refine lx_value (v := num Y) F (wanted_none rfl _) rfl (by rfl) (o_loadA1 (F.ev rfl) (HM.get 4 rfl)) fun a F => ?_
 refine lx_call F (wanted_none rfl _) rfl (by rfl) (run_callF Try.func18 (by kernel_rfl) (by rfl) (.cons (F.ev rfl) (.cons (F.ev rfl) (.cons (F.ev rfl) .nil))) _) (n1 _) fun a w z F => ?_
 replace HM := HM.on z
 clear z
 refine lx_value (v := .tuple #[num x, .int .i64 e1]) F (wanted_none rfl _) rfl (by rfl) (o_move (F.ev rfl)) fun a F => ?_
 refine lx_value (v := num x) F (wanted_none rfl _) rfl (by rfl) (o_extract (F.ev rfl) rfl) fun a F => ?_
 refine lx_value (v := .int .i64 e1) F (wanted_none rfl _) rfl (by rfl) (o_extract (F.ev rfl) rfl) fun a F => ?_
 refine lx_new F HM (wanted_none rfl _) rfl (by rfl) (o_allocN) fun a w gp F HM => ?_
 refine lx_store F HM (wanted_none rfl _) rfl (k := 0) rfl (o_storeN (F.ev rfl) (F.ev rfl) (HM.get 0 rfl)) (M2 := [(gp, 24, ncs x), (gv, 24, ncs v), (gz, 24, ncs z), (gy, 24, ncs y), (gx, 24, ncs x), (gl, 36, acs X Y), (gg, 35, gcs P Q G H)]) rfl fun w HM => ?_
 refine lx_value (v := .int .i64 e1) F (wanted_none rfl _) rfl (by rfl) (o_assign (F.ev rfl)) fun a F => ?_
 refine lx_nil ?_
 repeat (first | refine ex_then ?_ | refine ex_block ?_ | refine wp_seq ?_ | refine wp_block ?_ | refine wp_skip ?_)
 refine wp_region_lit ?_
 refine lx_value (v := grp P Q G H) F (wanted_none rfl _) rfl (by rfl) (o_loadG (F.ev rfl) (HM.get 6 rfl)) fun a F => ?_
 refine lx_value (v := .pointer (some ⟨gl, 0, none⟩)) F (wanted_none rfl _) rfl (by rfl) (o_idxA0 (F.ev rfl) rfl) fun a F => ?_
 refine lx_value (v := num X) F (wanted_none rfl _) rfl (by rfl) (o_loadA0 (F.ev rfl) (HM.get 5 rfl)) fun a F => ?_
 refine lx_value (v := .pointer (some ⟨gl, 4, none⟩)) F (wanted_none rfl _) rfl (by rfl) (o_idxA1 (F.ev rfl) rfl) fun a F => ?_
 refine lx_value (v := num Y) F (wanted_none rfl _) rfl (by rfl) (o_loadA1 (F.ev rfl) (HM.get 5 rfl)) fun a F => ?_
 refine lx_call F (wanted_none rfl _) rfl (by rfl) (run_callF Try.func19 (by kernel_rfl) (by rfl) (.cons (F.ev rfl) (.cons (F.ev rfl) (.cons (F.ev rfl) .nil))) _) (n2 _) fun a w z F => ?_
 replace HM := HM.on z
 clear z
 refine lx_value (v := .tuple #[num y, .int .i64 e2]) F (wanted_none rfl _) rfl (by rfl) (o_move (F.ev rfl)) fun a F => ?_
 refine lx_value (v := num y) F (wanted_none rfl _) rfl (by rfl) (o_extract (F.ev rfl) rfl) fun a F => ?_
 refine lx_value (v := .int .i64 e2) F (wanted_none rfl _) rfl (by rfl) (o_extract (F.ev rfl) rfl) fun a F => ?_
 refine lx_new F HM (wanted_none rfl _) rfl (by rfl) (o_allocN) fun a w gq F HM => ?_
 refine lx_store F HM (wanted_none rfl _) rfl (k := 0) rfl (o_storeN (F.ev rfl) (F.ev rfl) (HM.get 0 rfl)) (M2 := [(gq, 24, ncs y), (gp, 24, ncs x), (gv, 24, ncs v), (gz, 24, ncs z), (gy, 24, ncs y), (gx, 24, ncs x), (gl, 36, acs X Y), (gg, 35, gcs P Q G H)]) rfl fun w HM => ?_
 refine lx_value (v := .int .i64 e2) F (wanted_none rfl _) rfl (by rfl) (o_assign (F.ev rfl)) fun a F => ?_
 refine lx_nil ?_
 repeat (first | refine ex_then ?_ | refine ex_block ?_ | refine wp_seq ?_ | refine wp_block ?_ | refine wp_skip ?_)
 refine wp_region_lit ?_
 refine lx_value (v := grp P Q G H) F (wanted_none rfl _) rfl (by rfl) (o_loadG (F.ev rfl) (HM.get 7 rfl)) fun a F => ?_
 refine lx_value (v := .pointer (some ⟨gl, 0, none⟩)) F (wanted_none rfl _) rfl (by rfl) (o_idxA0 (F.ev rfl) rfl) fun a F => ?_
 refine lx_value (v := num X) F (wanted_none rfl _) rfl (by rfl) (o_loadA0 (F.ev rfl) (HM.get 6 rfl)) fun a F => ?_
 refine lx_value (v := .pointer (some ⟨gl, 4, none⟩)) F (wanted_none rfl _) rfl (by rfl) (o_idxA1 (F.ev rfl) rfl) fun a F => ?_
 refine lx_value (v := num Y) F (wanted_none rfl _) rfl (by rfl) (o_loadA1 (F.ev rfl) (HM.get 6 rfl)) fun a F => ?_
 refine lx_call F (wanted_none rfl _) rfl (by rfl) (run_callF Try.func20 (by kernel_rfl) (by rfl) (.cons (F.ev rfl) (.cons (F.ev rfl) (.cons (F.ev rfl) .nil))) _) (n3 _) fun a w z F => ?_
 replace HM := HM.on z
 clear z
 refine lx_value (v := .tuple #[num z, .int .i64 e3]) F (wanted_none rfl _) rfl (by rfl) (o_move (F.ev rfl)) fun a F => ?_
 refine lx_value (v := num z) F (wanted_none rfl _) rfl (by rfl) (o_extract (F.ev rfl) rfl) fun a F => ?_
 refine lx_value (v := .int .i64 e3) F (wanted_none rfl _) rfl (by rfl) (o_extract (F.ev rfl) rfl) fun a F => ?_
 refine lx_new F HM (wanted_none rfl _) rfl (by rfl) (o_allocN) fun a w gr F HM => ?_
 refine lx_store F HM (wanted_none rfl _) rfl (k := 0) rfl (o_storeN (F.ev rfl) (F.ev rfl) (HM.get 0 rfl)) (M2 := [(gr, 24, ncs z), (gq, 24, ncs y), (gp, 24, ncs x), (gv, 24, ncs v), (gz, 24, ncs z), (gy, 24, ncs y), (gx, 24, ncs x), (gl, 36, acs X Y), (gg, 35, gcs P Q G H)]) rfl fun w HM => ?_
 refine lx_value (v := .int .i64 e3) F (wanted_none rfl _) rfl (by rfl) (o_assign (F.ev rfl)) fun a F => ?_
 refine lx_nil ?_
 repeat (first | refine ex_then ?_ | refine ex_block ?_ | refine wp_seq ?_ | refine wp_block ?_ | refine wp_skip ?_)
 refine wp_region_lit ?_
 refine lx_value (v := grp P Q G H) F (wanted_none rfl _) rfl (by rfl) (o_loadG (F.ev rfl) (HM.get 8 rfl)) fun a F => ?_
 refine lx_value (v := .pointer (some ⟨gl, 0, none⟩)) F (wanted_none rfl _) rfl (by rfl) (o_idxA0 (F.ev rfl) rfl) fun a F => ?_
 refine lx_value (v := num X) F (wanted_none rfl _) rfl (by rfl) (o_loadA0 (F.ev rfl) (HM.get 7 rfl)) fun a F => ?_
 refine lx_call F (wanted_none rfl _) rfl (by rfl) (run_callF Try.func21 (by kernel_rfl) (by rfl) (.cons (F.ev rfl) (.cons (F.ev rfl) .nil)) _) (n4 _) fun a w z F => ?_
 replace HM := HM.on z
 clear z
 refine lx_value (v := .tuple #[num v, .int .i64 e4]) F (wanted_none rfl _) rfl (by rfl) (o_move (F.ev rfl)) fun a F => ?_
 refine lx_value (v := num v) F (wanted_none rfl _) rfl (by rfl) (o_extract (F.ev rfl) rfl) fun a F => ?_
 refine lx_value (v := .int .i64 e4) F (wanted_none rfl _) rfl (by rfl) (o_extract (F.ev rfl) rfl) fun a F => ?_
 refine lx_new F HM (wanted_none rfl _) rfl (by rfl) (o_allocN) fun a w gu F HM => ?_
 refine lx_store F HM (wanted_none rfl _) rfl (k := 0) rfl (o_storeN (F.ev rfl) (F.ev rfl) (HM.get 0 rfl)) (M2 := [(gu, 24, ncs v), (gr, 24, ncs z), (gq, 24, ncs y), (gp, 24, ncs x), (gv, 24, ncs v), (gz, 24, ncs z), (gy, 24, ncs y), (gx, 24, ncs x), (gl, 36, acs X Y), (gg, 35, gcs P Q G H)]) rfl fun w HM => ?_
 refine lx_value (v := .int .i64 e4) F (wanted_none rfl _) rfl (by rfl) (o_assign (F.ev rfl)) fun a F => ?_
 refine lx_nil ?_
 repeat (first | refine ex_then ?_ | refine ex_block ?_ | refine wp_seq ?_ | refine wp_block ?_ | refine wp_skip ?_)
 try simp only [List.append_eq, List.cons_append, List.nil_append]
 refine sx_drawn [⟨0, 91, [], .val (num x), true⟩,
   ⟨1, 92, [0], .val (num x), true⟩,
   ⟨2, 93, [0, 1], .val (.bool true), true⟩,
   ⟨3, 94, [2], .val (.bool true), true⟩,
   ⟨4, 95, [3], .val (num y), true⟩,
   ⟨5, 96, [3, 4], .val (num y), true⟩,
   ⟨6, 97, [3, 4, 5], .val (.bool true), true⟩,
   ⟨7, 98, [3, 6], .val (.bool true), true⟩,
   ⟨8, 99, [7], .val (.bool true), true⟩,
   ⟨9, 100, [8], .val (num z), true⟩,
   ⟨10, 101, [8, 9], .val (num z), true⟩,
   ⟨11, 102, [8, 9, 10], .val (.bool true), true⟩,
   ⟨12, 103, [8, 11], .val (.bool true), true⟩,
   ⟨13, 104, [12], .val (.bool true), true⟩,
   ⟨14, 105, [13], .val (num v), true⟩,
   ⟨15, 106, [13, 14], .val (num v), true⟩,
   ⟨16, 107, [13, 14, 15], .val (.bool true), true⟩,
   ⟨17, 108, [13, 16], .val (.bool true), true⟩,
   ⟨18, 109, [17], .val (.bool true), true⟩,
   ⟨19, 110, [18], .val (.int .i64 e1), true⟩,
   ⟨20, 111, [18, 19], .val (.int .i64 e1), true⟩,
   ⟨21, 112, [18, 19, 20], .val (.bool true), true⟩,
   ⟨22, 113, [18, 21], .val (.bool true), true⟩,
   ⟨23, 114, [22], .val (.bool true), true⟩,
   ⟨24, 115, [23], .val (.int .i64 e2), true⟩,
   ⟨25, 116, [23, 24], .val (.int .i64 e2), true⟩,
   ⟨26, 117, [23, 24, 25], .val (.bool true), true⟩,
   ⟨27, 118, [23, 26], .val (.bool true), true⟩,
   ⟨28, 119, [27], .val (.bool true), true⟩,
   ⟨29, 120, [28], .val (.int .i64 e3), true⟩,
   ⟨30, 121, [28, 29], .val (.int .i64 e3), true⟩,
   ⟨31, 122, [28, 29, 30], .val (.bool true), true⟩,
   ⟨32, 123, [28, 31], .val (.bool true), true⟩,
   ⟨33, 124, [32], .val (.bool true), true⟩,
   ⟨34, 125, [33], .val (.int .i64 e4), true⟩,
   ⟨35, 126, [33, 34], .val (.int .i64 e4), true⟩,
   ⟨36, 127, [33, 34, 35], .val (.bool true), true⟩,
   ⟨37, 128, [33, 36], .val (.bool true), true⟩,
   ⟨38, 129, [37], .val (.bool true), true⟩,
   ⟨39, 130, [38], .val (grp P Q G H), true⟩,
   ⟨40, 131, [38, 39], .val (.int .i64 n), true⟩,
   ⟨42, 133, [38, 40], .val (grp P Q G H), true⟩,
   ⟨43, 134, [38, 41], .val (.int .i64 n), true⟩,
   ⟨41, 132, [38, 39, 40, 42], .val (num V), false⟩,
   ⟨44, 135, [38, 41, 42, 43], .val (num V), false⟩,
   ⟨45, 136, [38, 43, 44], .val (.bool true), true⟩,
   ⟨46, 137, [38, 45], .val (.bool true), true⟩] 1 F HM (by kernel_rfl) (by rfl) (by rfl) ?_ ?_ ?_ ?_ ?_ ?_ ?_
 ·kernel_rfl
 ·exact of_decide_eq_true (by kernel_rfl)
 ·(repeat refine all_cons ⟨_, by rfl, by rfl⟩ ?_); exact all_nil
 ·kernel_rfl
 ·(repeat (refine all_cons ?_ ?_; rotate_left)); exact all_nil
  ·exact coreS _ _ _ _ _ _ _ (by rfl) (by rfl) (wants_none) (fun ρ w kn hs => o_loadN (kn _ _ (F.old (by rfl) rfl)) (hs.get 7 rfl))
  ·exact coreS _ _ _ _ _ _ _ (by rfl) (by rfl) (wants_none) (fun ρ w kn hs => o_loadN (kn _ _ (F.old (by rfl) rfl)) (hs.get 3 rfl))
  ·exact coreS _ _ _ _ _ _ _ (by rfl) (by rfl) (wants_none) (fun ρ w kn hs => o_eqlS (kn _ _ (kc 0 91)) (kn _ _ (kc 1 92)))
  ·exact coreS _ _ _ _ _ _ _ (by rfl) (by rfl) (wants_none) (fun ρ w kn hs => o_move (kn _ _ (kc 2 93)))
  ·exact coreS _ _ _ _ _ _ _ (by rfl) (by rfl) (wc 3 94 3 (kc 3 94)) (fun ρ w kn hs => o_loadN (kn _ _ (F.old (by rfl) rfl)) (hs.get 6 rfl))
  ·exact coreS _ _ _ _ _ _ _ (by rfl) (by rfl) (wc 3 94 3 (kc 3 94)) (fun ρ w kn hs => o_loadN (kn _ _ (F.old (by rfl) rfl)) (hs.get 2 rfl))
  ·exact coreS _ _ _ _ _ _ _ (by rfl) (by rfl) (wc 3 94 3 (kc 3 94)) (fun ρ w kn hs => o_eqlS (kn _ _ (kc 4 95)) (kn _ _ (kc 5 96)))
  ·exact coreS _ _ _ _ _ _ _ (by rfl) (by rfl) (wants_none) (fun ρ w kn hs => o_pick (b := true) (r := .bool true) (kn _ _ (kc 3 94)) (kn _ _ (kc 6 97)) (kn _ _ (known_const _)) rfl)
  ·exact coreS _ _ _ _ _ _ _ (by rfl) (by rfl) (wants_none) (fun ρ w kn hs => o_move (kn _ _ (kc 7 98)))
  ·exact coreS _ _ _ _ _ _ _ (by rfl) (by rfl) (wc 8 99 8 (kc 8 99)) (fun ρ w kn hs => o_loadN (kn _ _ (F.old (by rfl) rfl)) (hs.get 5 rfl))
  ·exact coreS _ _ _ _ _ _ _ (by rfl) (by rfl) (wc 8 99 8 (kc 8 99)) (fun ρ w kn hs => o_loadN (kn _ _ (F.old (by rfl) rfl)) (hs.get 1 rfl))
  ·exact coreS _ _ _ _ _ _ _ (by rfl) (by rfl) (wc 8 99 8 (kc 8 99)) (fun ρ w kn hs => o_eqlS (kn _ _ (kc 9 100)) (kn _ _ (kc 10 101)))
  ·exact coreS _ _ _ _ _ _ _ (by rfl) (by rfl) (wants_none) (fun ρ w kn hs => o_pick (b := true) (r := .bool true) (kn _ _ (kc 8 99)) (kn _ _ (kc 11 102)) (kn _ _ (known_const _)) rfl)
  ·exact coreS _ _ _ _ _ _ _ (by rfl) (by rfl) (wants_none) (fun ρ w kn hs => o_move (kn _ _ (kc 12 103)))
  ·exact coreS _ _ _ _ _ _ _ (by rfl) (by rfl) (wc 13 104 13 (kc 13 104)) (fun ρ w kn hs => o_loadN (kn _ _ (F.old (by rfl) rfl)) (hs.get 4 rfl))
  ·exact coreS _ _ _ _ _ _ _ (by rfl) (by rfl) (wc 13 104 13 (kc 13 104)) (fun ρ w kn hs => o_loadN (kn _ _ (F.old (by rfl) rfl)) (hs.get 0 rfl))
  ·exact coreS _ _ _ _ _ _ _ (by rfl) (by rfl) (wc 13 104 13 (kc 13 104)) (fun ρ w kn hs => o_eqlS (kn _ _ (kc 14 105)) (kn _ _ (kc 15 106)))
  ·exact coreS _ _ _ _ _ _ _ (by rfl) (by rfl) (wants_none) (fun ρ w kn hs => o_pick (b := true) (r := .bool true) (kn _ _ (kc 13 104)) (kn _ _ (kc 16 107)) (kn _ _ (known_const _)) rfl)
  ·exact coreS _ _ _ _ _ _ _ (by rfl) (by rfl) (wants_none) (fun ρ w kn hs => o_move (kn _ _ (kc 17 108)))
  ·exact coreS _ _ _ _ _ _ _ (by rfl) (by rfl) (wc 18 109 18 (kc 18 109)) (fun ρ w kn hs => o_move (kn _ _ (F.old (by rfl) rfl)))
  ·exact coreS _ _ _ _ _ _ _ (by rfl) (by rfl) (wc 18 109 18 (kc 18 109)) (fun ρ w kn hs => o_move (kn _ _ (F.old (by rfl) rfl)))
  ·exact coreS _ _ _ _ _ _ _ (by rfl) (by rfl) (wc 18 109 18 (kc 18 109)) (fun ρ w kn hs => o_bin (u := .int .i64 e1) (v := .int .i64 e1) (fun ρ hx hy => by simp only [execOp, hx, hy]; simp [go_sem]) (kn _ _ (kc 19 110)) (kn _ _ (kc 20 111)))
  ·exact coreS _ _ _ _ _ _ _ (by rfl) (by rfl) (wants_none) (fun ρ w kn hs => o_pick (b := true) (r := .bool true) (kn _ _ (kc 18 109)) (kn _ _ (kc 21 112)) (kn _ _ (known_const _)) rfl)
  ·exact coreS _ _ _ _ _ _ _ (by rfl) (by rfl) (wants_none) (fun ρ w kn hs => o_move (kn _ _ (kc 22 113)))
  ·exact coreS _ _ _ _ _ _ _ (by rfl) (by rfl) (wc 23 114 23 (kc 23 114)) (fun ρ w kn hs => o_move (kn _ _ (F.old (by rfl) rfl)))
  ·exact coreS _ _ _ _ _ _ _ (by rfl) (by rfl) (wc 23 114 23 (kc 23 114)) (fun ρ w kn hs => o_move (kn _ _ (F.old (by rfl) rfl)))
  ·exact coreS _ _ _ _ _ _ _ (by rfl) (by rfl) (wc 23 114 23 (kc 23 114)) (fun ρ w kn hs => o_bin (u := .int .i64 e2) (v := .int .i64 e2) (fun ρ hx hy => by simp only [execOp, hx, hy]; simp [go_sem]) (kn _ _ (kc 24 115)) (kn _ _ (kc 25 116)))
  ·exact coreS _ _ _ _ _ _ _ (by rfl) (by rfl) (wants_none) (fun ρ w kn hs => o_pick (b := true) (r := .bool true) (kn _ _ (kc 23 114)) (kn _ _ (kc 26 117)) (kn _ _ (known_const _)) rfl)
  ·exact coreS _ _ _ _ _ _ _ (by rfl) (by rfl) (wants_none) (fun ρ w kn hs => o_move (kn _ _ (kc 27 118)))
  ·exact coreS _ _ _ _ _ _ _ (by rfl) (by rfl) (wc 28 119 28 (kc 28 119)) (fun ρ w kn hs => o_move (kn _ _ (F.old (by rfl) rfl)))
  ·exact coreS _ _ _ _ _ _ _ (by rfl) (by rfl) (wc 28 119 28 (kc 28 119)) (fun ρ w kn hs => o_move (kn _ _ (F.old (by rfl) rfl)))
  ·exact coreS _ _ _ _ _ _ _ (by rfl) (by rfl) (wc 28 119 28 (kc 28 119)) (fun ρ w kn hs => o_bin (u := .int .i64 e3) (v := .int .i64 e3) (fun ρ hx hy => by simp only [execOp, hx, hy]; simp [go_sem]) (kn _ _ (kc 29 120)) (kn _ _ (kc 30 121)))
  ·exact coreS _ _ _ _ _ _ _ (by rfl) (by rfl) (wants_none) (fun ρ w kn hs => o_pick (b := true) (r := .bool true) (kn _ _ (kc 28 119)) (kn _ _ (kc 31 122)) (kn _ _ (known_const _)) rfl)
  ·exact coreS _ _ _ _ _ _ _ (by rfl) (by rfl) (wants_none) (fun ρ w kn hs => o_move (kn _ _ (kc 32 123)))
  ·exact coreS _ _ _ _ _ _ _ (by rfl) (by rfl) (wc 33 124 33 (kc 33 124)) (fun ρ w kn hs => o_move (kn _ _ (F.old (by rfl) rfl)))
  ·exact coreS _ _ _ _ _ _ _ (by rfl) (by rfl) (wc 33 124 33 (kc 33 124)) (fun ρ w kn hs => o_move (kn _ _ (F.old (by rfl) rfl)))
  ·exact coreS _ _ _ _ _ _ _ (by rfl) (by rfl) (wc 33 124 33 (kc 33 124)) (fun ρ w kn hs => o_bin (u := .int .i64 e4) (v := .int .i64 e4) (fun ρ hx hy => by simp only [execOp, hx, hy]; simp [go_sem]) (kn _ _ (kc 34 125)) (kn _ _ (kc 35 126)))
  ·exact coreS _ _ _ _ _ _ _ (by rfl) (by rfl) (wants_none) (fun ρ w kn hs => o_pick (b := true) (r := .bool true) (kn _ _ (kc 33 124)) (kn _ _ (kc 36 127)) (kn _ _ (known_const _)) rfl)
  ·exact coreS _ _ _ _ _ _ _ (by rfl) (by rfl) (wants_none) (fun ρ w kn hs => o_move (kn _ _ (kc 37 128)))
  ·exact coreS _ _ _ _ _ _ _ (by rfl) (by rfl) (wc 38 129 38 (kc 38 129)) (fun ρ w kn hs => o_loadG (kn _ _ (F.old (by rfl) rfl)) (hs.get 9 rfl))
  ·exact coreS _ _ _ _ _ _ _ (by rfl) (by rfl) (wc 38 129 38 (kc 38 129)) (fun ρ w kn hs => o_move (kn _ _ (F.old (by rfl) rfl)))
  ·exact coreS _ _ _ _ _ _ _ (by rfl) (by rfl) (wc 38 129 38 (kc 38 129)) (fun ρ w kn hs => o_loadG (kn _ _ (F.old (by rfl) rfl)) (hs.get 9 rfl))
  ·exact coreS _ _ _ _ _ _ _ (by rfl) (by rfl) (wc 38 129 38 (kc 38 129)) (fun ρ w kn hs => o_move (kn _ _ (F.old (by rfl) rfl)))
  ·exact core_pureAs _ (by rfl)
  ·exact core_pureAs _ (by rfl)
  ·exact coreS _ _ _ _ _ _ _ (by rfl) (by rfl) (wc 38 129 38 (kc 38 129)) (fun ρ w kn hs => o_eqlS (kn _ _ (kc 43 132)) (kn _ _ (kc 44 135)))
  ·exact coreS _ _ _ _ _ _ _ (by rfl) (by rfl) (wants_none) (fun ρ w kn hs => o_pick (b := true) (r := .bool true) (kn _ _ (kc 38 129)) (kn _ _ (kc 45 136)) (kn _ _ (known_const _)) rfl)
 ·(repeat (refine all_cons ?_ ?_; rotate_left)); exact all_nil
  ·exact sA
  ·exact sA
  ·exact sA
  ·exact sA
  ·exact sA
  ·exact sA
  ·exact sA
  ·exact sA
  ·exact sA
  ·exact sA
  ·exact sA
  ·exact sA
  ·exact sA
  ·exact sA
  ·exact sA
  ·exact sA
  ·exact sA
  ·exact sA
  ·exact sA
  ·exact sA
  ·exact sA
  ·exact sA
  ·exact sA
  ·exact sA
  ·exact sA
  ·exact sA
  ·exact sA
  ·exact sA
  ·exact sA
  ·exact sA
  ·exact sA
  ·exact sA
  ·exact sA
  ·exact sA
  ·exact sA
  ·exact sA
  ·exact sA
  ·exact sA
  ·exact sA
  ·exact sA
  ·exact sA
  ·exact sA
  ·exact sA
  ·exact fun _ => coreG_call _ 22 _ _ [.tmp 130, .tmp 131] _ _ _ _ _ _ _ (by rfl) Try.func22 (by kernel_rfl) (by rfl) (by rfl) (wc 38 129 38 (kc 38 129)) (.cons (kc 39 130) (.cons (kc 40 131) .nil)) (s1)
  ·exact fun _ => coreG_call _ 23 _ _ [.tmp 133, .tmp 134] _ _ _ _ _ _ _ (by rfl) Try.func23 (by kernel_rfl) (by rfl) (by rfl) (wc 38 129 38 (kc 38 129)) (.cons (kc 41 133) (.cons (kc 42 134) .nil)) (s2)
  ·exact sA
  ·exact sA
 intro gs rs a w hgs hrs F HM
 obtain rfl := nl0 rs hrs
 clear hrs
 obtain rfl := nl0 gs hgs
 clear hgs
 refine sx_assign (i := 47) (d := 6) (x := .tmp 137) (v := .bool true) F (HM) (by kernel_rfl) (by rfl) (by rfl) (F.ev rfl) fun a F => ?_
 refine sx_done (by kernel_rfl) ?_ _
 repeat (first | refine ex_then ?_ | refine ex_block ?_ | refine wp_seq ?_ | refine wp_block ?_ | refine wp_skip ?_)
 refine wp_ret ?_
 repeat (first | refine ex_thenR ?_ | refine ex_blockR ?_)
 exact sx_ret F HM (res_tmp F rfl (s := 6) rfl)

theorem sco_walk (P Q G H X Y : Nat) (n : Int) (hQ : Q < 2 ^ 256) (hX : X < 2 ^ 256) (hY : Y < 2 ^ 256) (hn1 : -9223372036854775808 ≤ n) (hn2 : n < 9223372036854775808) (w : World) : Calls Try.prog 4 #[grp P Q G H, arr2 X Y, .int .i64 n] w fun e w' => e = .returned (.bool true) ∧ Below w.heap.size w w' := by
 obtain ⟨x, e1, m1, n1⟩ := both9_add P Q G H X Y hQ hX hY
 obtain ⟨y, e2, m2, n2⟩ := both9_sub P Q G H X Y hQ hX hY
 obtain ⟨z, e3, m3, n3⟩ := both9_mul P Q G H X Y hQ hX hY
 obtain ⟨v, e4, m4, n4⟩ := both9_inv P Q G H X hQ hX
 exact sco_w P Q G H X Y x y z v (sofN Q n) n e1 e2 e3 e4 m1 m2 m3 m4 n1 n2 n3 n4 (fun w => sof_any P Q G H n hQ hn1 hn2 w) (fun w => rof9_any P Q G H n hQ hn1 hn2 w) w
end Go.Proofs.Ytodlpmepoakdlaa
