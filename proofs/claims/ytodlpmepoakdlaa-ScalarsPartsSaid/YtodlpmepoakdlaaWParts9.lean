/-
  ScalarsParts: walked.
-/
import Derived.Deep.Cut
import Derived.Test.YtodlpmepoakdlaaWAlive9
import Derived.Test.YtodlpmepoakdlaaWShort
namespace Go.Proofs.Ytodlpmepoakdlaa
set_option maxRecDepth 100000
open Go.RowKit
set_option linter.unusedSimpArgs false
set_option linter.unusedVariables false
attribute [local go_sem ↓] Go.wp_at_zero Go.wp_at_succ

set_option maxRecDepth 100000 in
set_option maxHeartbeats 8000000 in
theorem parts_1 (P Q G H X Y Z W B D : Nat) (e1 e2 : Int)
    (hQ : Q < 2 ^ 256)
    (hX : X < 2 ^ 256)
    (hZ : Z < 2 ^ 256)
    (c1 : ∀ w, Calls Try.prog 17 #[grp P Q G H, num Y] w fun e w' => e = .returned (.tuple #[num B, .int .i64 e1]) ∧ Below w.heap.size w w')
    (c2 : ∀ w, Calls Try.prog 17 #[grp P Q G H, num W] w fun e w' => e = .returned (.tuple #[num D, .int .i64 e2]) ∧ Below w.heap.size w w')
    (he1 : e1 ≠ 0)
    (w : World) : Calls Try.prog 8 #[grp P Q G H, arr4 X Y Z W] w fun e w' => e = .returned (.bool true) ∧ Below w.heap.size w w' := by
  refine sx_enter (args := [grp P Q G H, arr4 X Y Z W]) Try.func8 rfl Try.ntmps8 (by rfl) fun a F HM => ?_
  repeat (first | refine ex_then ?_ | refine ex_block ?_ | refine wp_seq ?_ | refine wp_block ?_ | refine wp_skip ?_)
  refine wp_region_lit ?_
  refine lx_new F HM (wanted_none rfl _) rfl (by rfl) (o_boxG (F.ev rfl)) fun a w gg F HM => ?_
  refine lx_new F HM (wanted_none rfl _) rfl (by rfl) (o_boxB (F.ev rfl)) fun a w gl F HM => ?_
  refine lx_value (v := .bool false) F (wanted_none rfl _) rfl (by rfl) (o_assign rfl) fun a F => ?_
  refine lx_nil ?_
  repeat (first | refine ex_then ?_ | refine ex_block ?_ | refine wp_seq ?_ | refine wp_block ?_ | refine wp_skip ?_)
  refine wp_region_lit ?_
  refine lx_value (v := grp P Q G H) F (wanted_none rfl _) rfl (by rfl) (o_loadG (F.ev rfl) (HM.get 1 rfl)) fun a F => ?_
  refine lx_value (v := .pointer (some ⟨gl, 4, none⟩)) F (wanted_none rfl _) rfl (by rfl) (o_idxB1 (F.ev rfl) rfl) fun a F => ?_
  refine lx_value (v := num Y) F (wanted_none rfl _) rfl (by rfl) (o_loadB1 (F.ev rfl) (HM.get 0 rfl)) fun a F => ?_
  refine lx_call F (wanted_none rfl _) rfl (by rfl) (run_callF Try.func17 (by kernel_rfl) (by rfl) (.cons (F.ev rfl) (.cons (F.ev rfl) .nil)) _) (c1 _) fun a w z F => ?_
  replace HM := HM.on z
  clear z
  refine lx_value (v := .tuple #[num B, .int .i64 e1]) F (wanted_none rfl _) rfl (by rfl) (o_move (F.ev rfl)) fun a F => ?_
  refine lx_value (v := num B) F (wanted_none rfl _) rfl (by rfl) (o_extract (F.ev rfl) rfl) fun a F => ?_
  refine lx_value (v := .int .i64 e1) F (wanted_none rfl _) rfl (by rfl) (o_extract (F.ev rfl) rfl) fun a F => ?_
  refine lx_new F HM (wanted_none rfl _) rfl (by rfl) (o_allocN) fun a w gb F HM => ?_
  refine lx_store F HM (wanted_none rfl _) rfl (k := 0) rfl (o_storeN (F.ev rfl) (F.ev rfl) (HM.get 0 rfl)) (M2 := [(gb, 24, ncs B), (gl, 47, a4cs X Y Z W), (gg, 35, gcs P Q G H)]) rfl fun w HM => ?_
  refine lx_value (v := .int .i64 e1) F (wanted_none rfl _) rfl (by rfl) (o_assign (F.ev rfl)) fun a F => ?_
  refine lx_nil ?_
  repeat (first | refine ex_then ?_ | refine ex_block ?_ | refine wp_seq ?_ | refine wp_block ?_ | refine wp_skip ?_)
  refine wp_region_lit ?_
  refine lx_value (v := grp P Q G H) F (wanted_none rfl _) rfl (by rfl) (o_loadG (F.ev rfl) (HM.get 2 rfl)) fun a F => ?_
  refine lx_value (v := .pointer (some ⟨gl, 12, none⟩)) F (wanted_none rfl _) rfl (by rfl) (o_idxB3 (F.ev rfl) rfl) fun a F => ?_
  refine lx_value (v := num W) F (wanted_none rfl _) rfl (by rfl) (o_loadB3 (F.ev rfl) (HM.get 1 rfl)) fun a F => ?_
  refine lx_call F (wanted_none rfl _) rfl (by rfl) (run_callF Try.func17 (by kernel_rfl) (by rfl) (.cons (F.ev rfl) (.cons (F.ev rfl) .nil)) _) (c2 _) fun a w z F => ?_
  replace HM := HM.on z
  clear z
  refine lx_value (v := .tuple #[num D, .int .i64 e2]) F (wanted_none rfl _) rfl (by rfl) (o_move (F.ev rfl)) fun a F => ?_
  refine lx_value (v := num D) F (wanted_none rfl _) rfl (by rfl) (o_extract (F.ev rfl) rfl) fun a F => ?_
  refine lx_value (v := .int .i64 e2) F (wanted_none rfl _) rfl (by rfl) (o_extract (F.ev rfl) rfl) fun a F => ?_
  refine lx_new F HM (wanted_none rfl _) rfl (by rfl) (o_allocN) fun a w gd F HM => ?_
  refine lx_store F HM (wanted_none rfl _) rfl (k := 0) rfl (o_storeN (F.ev rfl) (F.ev rfl) (HM.get 0 rfl)) (M2 := [(gd, 24, ncs D), (gb, 24, ncs B), (gl, 47, a4cs X Y Z W), (gg, 35, gcs P Q G H)]) rfl fun w HM => ?_
  refine lx_value (v := .int .i64 e2) F (wanted_none rfl _) rfl (by rfl) (o_assign (F.ev rfl)) fun a F => ?_
  refine lx_nil ?_
  repeat (first | refine ex_then ?_ | refine ex_block ?_ | refine wp_seq ?_ | refine wp_block ?_ | refine wp_skip ?_)
  refine wp_region_lit ?_
  refine lx_value (v := .int .i64 e1) F (wanted_none rfl _) rfl (by rfl) (o_move (F.ev rfl)) fun a F => ?_
  refine lx_value (v := .bool true) F (wanted_none rfl _) rfl (by rfl) (o_bin (u := .int .i64 e1) (v := .int .i64 0) (fun ρ hx hy => by simp only [execOp, hx, hy]; simp [go_sem, he1]) (F.ev rfl) rfl) fun a F => ?_
  refine lx_value (v := .bool true) F (wanted_none rfl _) rfl (by rfl) (o_move (F.ev rfl)) fun a F => ?_
  refine lx_pass F (F.want (t := 45) (c := true) rfl rfl rfl (by rfl) rfl) rfl (by rfl) fun a F => ?_
  refine lx_pass F (F.want (t := 45) (c := true) rfl rfl rfl (by rfl) rfl) rfl (by rfl) fun a F => ?_
  refine lx_value (v := .bool true) F (wanted_none rfl _) rfl (by rfl) (o_pick (b := true) (r := .bool true) (F.ev rfl) rfl (F.ev rfl) rfl) fun a F => ?_
  refine lx_value (v := .bool true) F (wanted_none rfl _) rfl (by rfl) (o_move (F.ev rfl)) fun a F => ?_
  refine lx_pass F (F.want (t := 49) (c := true) rfl rfl rfl (by rfl) rfl) rfl (by rfl) fun a F => ?_
  refine lx_pass F (F.want (t := 49) (c := true) rfl rfl rfl (by rfl) rfl) rfl (by rfl) fun a F => ?_
  refine lx_pass F (F.want (t := 49) (c := true) rfl rfl rfl (by rfl) rfl) rfl (by rfl) fun a F => ?_
  refine lx_pass F (F.want (t := 49) (c := true) rfl rfl rfl (by rfl) rfl) rfl (by rfl) fun a F => ?_
  refine lx_pass F (F.want (t := 49) (c := true) rfl rfl rfl (by rfl) rfl) rfl (by rfl) fun a F => ?_
  refine lx_pass F (F.want (t := 49) (c := true) rfl rfl rfl (by rfl) rfl) rfl (by rfl) fun a F => ?_
  refine lx_value (v := .bool true) F (wanted_none rfl _) rfl (by rfl) (o_pick (b := true) (r := .bool true) (F.ev rfl) rfl (F.ev rfl) rfl) fun a F => ?_
  refine lx_value (v := .bool true) F (wanted_none rfl _) rfl (by rfl) (o_move (F.ev rfl)) fun a F => ?_
  refine lx_pass F (F.want (t := 57) (c := true) rfl rfl rfl (by rfl) rfl) rfl (by rfl) fun a F => ?_
  refine lx_pass F (F.want (t := 57) (c := true) rfl rfl rfl (by rfl) rfl) rfl (by rfl) fun a F => ?_
  refine lx_pass F (F.want (t := 57) (c := true) rfl rfl rfl (by rfl) rfl) rfl (by rfl) fun a F => ?_
  refine lx_pass F (F.want (t := 57) (c := true) rfl rfl rfl (by rfl) rfl) rfl (by rfl) fun a F => ?_
  refine lx_pass F (F.want (t := 57) (c := true) rfl rfl rfl (by rfl) rfl) rfl (by rfl) fun a F => ?_
  refine lx_pass F (F.want (t := 57) (c := true) rfl rfl rfl (by rfl) rfl) rfl (by rfl) fun a F => ?_
  refine lx_value (v := .bool true) F (wanted_none rfl _) rfl (by rfl) (o_pick (b := true) (r := .bool true) (F.ev rfl) rfl (F.ev rfl) rfl) fun a F => ?_
  refine lx_nil ?_
  repeat (first | refine ex_then ?_ | refine ex_block ?_ | refine wp_seq ?_ | refine wp_block ?_ | refine wp_skip ?_)
  refine wp_cond_true (F.ev rfl) ?_
  repeat (first | refine ex_then ?_ | refine ex_block ?_ | refine wp_seq ?_ | refine wp_block ?_ | refine wp_skip ?_)
  refine wp_region_lit ?_
  refine lx_call F (wanted_none rfl _) rfl (by rfl) (run_callF Try.func26 (by kernel_rfl) (by rfl) .nil _) (alive9_any _) fun a w z F => ?_
  replace HM := HM.on z
  clear z
  refine lx_value (v := .bool true) F (wanted_none rfl _) rfl (by rfl) (o_assign (F.ev rfl)) fun a F => ?_
  refine lx_nil ?_
  repeat (first | refine ex_then ?_ | refine ex_block ?_ | refine wp_seq ?_ | refine wp_block ?_ | refine wp_skip ?_)
  refine wp_ret ?_
  repeat (first | refine ex_thenR ?_ | refine ex_blockR ?_)
  exact sx_ret F HM (res_tmp F rfl (s := 4) rfl)

set_option maxRecDepth 100000 in
set_option maxHeartbeats 8000000 in
theorem parts_2 (P Q G H X Y Z W B D : Nat) (e1 e2 : Int)
    (hQ : Q < 2 ^ 256)
    (hX : X < 2 ^ 256)
    (hZ : Z < 2 ^ 256)
    (c1 : ∀ w, Calls Try.prog 17 #[grp P Q G H, num Y] w fun e w' => e = .returned (.tuple #[num B, .int .i64 e1]) ∧ Below w.heap.size w w')
    (c2 : ∀ w, Calls Try.prog 17 #[grp P Q G H, num W] w fun e w' => e = .returned (.tuple #[num D, .int .i64 e2]) ∧ Below w.heap.size w w')
    (he1 : e1 = 0)
    (he2 : e2 ≠ 0)
    (w : World) : Calls Try.prog 8 #[grp P Q G H, arr4 X Y Z W] w fun e w' => e = .returned (.bool true) ∧ Below w.heap.size w w' := by
  refine sx_enter (args := [grp P Q G H, arr4 X Y Z W]) Try.func8 rfl Try.ntmps8 (by rfl) fun a F HM => ?_
  repeat (first | refine ex_then ?_ | refine ex_block ?_ | refine wp_seq ?_ | refine wp_block ?_ | refine wp_skip ?_)
  refine wp_region_lit ?_
  refine lx_new F HM (wanted_none rfl _) rfl (by rfl) (o_boxG (F.ev rfl)) fun a w gg F HM => ?_
  refine lx_new F HM (wanted_none rfl _) rfl (by rfl) (o_boxB (F.ev rfl)) fun a w gl F HM => ?_
  refine lx_value (v := .bool false) F (wanted_none rfl _) rfl (by rfl) (o_assign rfl) fun a F => ?_
  refine lx_nil ?_
  repeat (first | refine ex_then ?_ | refine ex_block ?_ | refine wp_seq ?_ | refine wp_block ?_ | refine wp_skip ?_)
  refine wp_region_lit ?_
  refine lx_value (v := grp P Q G H) F (wanted_none rfl _) rfl (by rfl) (o_loadG (F.ev rfl) (HM.get 1 rfl)) fun a F => ?_
  refine lx_value (v := .pointer (some ⟨gl, 4, none⟩)) F (wanted_none rfl _) rfl (by rfl) (o_idxB1 (F.ev rfl) rfl) fun a F => ?_
  refine lx_value (v := num Y) F (wanted_none rfl _) rfl (by rfl) (o_loadB1 (F.ev rfl) (HM.get 0 rfl)) fun a F => ?_
  refine lx_call F (wanted_none rfl _) rfl (by rfl) (run_callF Try.func17 (by kernel_rfl) (by rfl) (.cons (F.ev rfl) (.cons (F.ev rfl) .nil)) _) (c1 _) fun a w z F => ?_
  replace HM := HM.on z
  clear z
  refine lx_value (v := .tuple #[num B, .int .i64 e1]) F (wanted_none rfl _) rfl (by rfl) (o_move (F.ev rfl)) fun a F => ?_
  refine lx_value (v := num B) F (wanted_none rfl _) rfl (by rfl) (o_extract (F.ev rfl) rfl) fun a F => ?_
  refine lx_value (v := .int .i64 e1) F (wanted_none rfl _) rfl (by rfl) (o_extract (F.ev rfl) rfl) fun a F => ?_
  refine lx_new F HM (wanted_none rfl _) rfl (by rfl) (o_allocN) fun a w gb F HM => ?_
  refine lx_store F HM (wanted_none rfl _) rfl (k := 0) rfl (o_storeN (F.ev rfl) (F.ev rfl) (HM.get 0 rfl)) (M2 := [(gb, 24, ncs B), (gl, 47, a4cs X Y Z W), (gg, 35, gcs P Q G H)]) rfl fun w HM => ?_
  refine lx_value (v := .int .i64 e1) F (wanted_none rfl _) rfl (by rfl) (o_assign (F.ev rfl)) fun a F => ?_
  refine lx_nil ?_
  repeat (first | refine ex_then ?_ | refine ex_block ?_ | refine wp_seq ?_ | refine wp_block ?_ | refine wp_skip ?_)
  refine wp_region_lit ?_
  refine lx_value (v := grp P Q G H) F (wanted_none rfl _) rfl (by rfl) (o_loadG (F.ev rfl) (HM.get 2 rfl)) fun a F => ?_
  refine lx_value (v := .pointer (some ⟨gl, 12, none⟩)) F (wanted_none rfl _) rfl (by rfl) (o_idxB3 (F.ev rfl) rfl) fun a F => ?_
  refine lx_value (v := num W) F (wanted_none rfl _) rfl (by rfl) (o_loadB3 (F.ev rfl) (HM.get 1 rfl)) fun a F => ?_
  refine lx_call F (wanted_none rfl _) rfl (by rfl) (run_callF Try.func17 (by kernel_rfl) (by rfl) (.cons (F.ev rfl) (.cons (F.ev rfl) .nil)) _) (c2 _) fun a w z F => ?_
  replace HM := HM.on z
  clear z
  refine lx_value (v := .tuple #[num D, .int .i64 e2]) F (wanted_none rfl _) rfl (by rfl) (o_move (F.ev rfl)) fun a F => ?_
  refine lx_value (v := num D) F (wanted_none rfl _) rfl (by rfl) (o_extract (F.ev rfl) rfl) fun a F => ?_
  refine lx_value (v := .int .i64 e2) F (wanted_none rfl _) rfl (by rfl) (o_extract (F.ev rfl) rfl) fun a F => ?_
  refine lx_new F HM (wanted_none rfl _) rfl (by rfl) (o_allocN) fun a w gd F HM => ?_
  refine lx_store F HM (wanted_none rfl _) rfl (k := 0) rfl (o_storeN (F.ev rfl) (F.ev rfl) (HM.get 0 rfl)) (M2 := [(gd, 24, ncs D), (gb, 24, ncs B), (gl, 47, a4cs X Y Z W), (gg, 35, gcs P Q G H)]) rfl fun w HM => ?_
  refine lx_value (v := .int .i64 e2) F (wanted_none rfl _) rfl (by rfl) (o_assign (F.ev rfl)) fun a F => ?_
  refine lx_nil ?_
  repeat (first | refine ex_then ?_ | refine ex_block ?_ | refine wp_seq ?_ | refine wp_block ?_ | refine wp_skip ?_)
  refine wp_region_lit ?_
  refine lx_value (v := .int .i64 e1) F (wanted_none rfl _) rfl (by rfl) (o_move (F.ev rfl)) fun a F => ?_
  refine lx_value (v := .bool false) F (wanted_none rfl _) rfl (by rfl) (o_bin (u := .int .i64 e1) (v := .int .i64 0) (fun ρ hx hy => by simp only [execOp, hx, hy]; simp [go_sem, he1]) (F.ev rfl) rfl) fun a F => ?_
  refine lx_value (v := .bool false) F (wanted_none rfl _) rfl (by rfl) (o_move (F.ev rfl)) fun a F => ?_
  refine lx_value (v := .int .i64 e2) F (F.want (t := 45) (c := false) rfl rfl rfl (by rfl) rfl) rfl (by rfl) (o_move (F.ev rfl)) fun a F => ?_
  refine lx_value (v := .bool true) F (F.want (t := 45) (c := false) rfl rfl rfl (by rfl) rfl) rfl (by rfl) (o_bin (u := .int .i64 e2) (v := .int .i64 0) (fun ρ hx hy => by simp only [execOp, hx, hy]; simp [go_sem, he2]) (F.ev rfl) rfl) fun a F => ?_
  refine lx_value (v := .bool true) F (wanted_none rfl _) rfl (by rfl) (o_pick (b := false) (r := .bool true) (F.ev rfl) rfl (F.ev rfl) rfl) fun a F => ?_
  refine lx_value (v := .bool true) F (wanted_none rfl _) rfl (by rfl) (o_move (F.ev rfl)) fun a F => ?_
  refine lx_pass F (F.want (t := 49) (c := true) rfl rfl rfl (by rfl) rfl) rfl (by rfl) fun a F => ?_
  refine lx_pass F (F.want (t := 49) (c := true) rfl rfl rfl (by rfl) rfl) rfl (by rfl) fun a F => ?_
  refine lx_pass F (F.want (t := 49) (c := true) rfl rfl rfl (by rfl) rfl) rfl (by rfl) fun a F => ?_
  refine lx_pass F (F.want (t := 49) (c := true) rfl rfl rfl (by rfl) rfl) rfl (by rfl) fun a F => ?_
  refine lx_pass F (F.want (t := 49) (c := true) rfl rfl rfl (by rfl) rfl) rfl (by rfl) fun a F => ?_
  refine lx_pass F (F.want (t := 49) (c := true) rfl rfl rfl (by rfl) rfl) rfl (by rfl) fun a F => ?_
  refine lx_value (v := .bool true) F (wanted_none rfl _) rfl (by rfl) (o_pick (b := true) (r := .bool true) (F.ev rfl) rfl (F.ev rfl) rfl) fun a F => ?_
  refine lx_value (v := .bool true) F (wanted_none rfl _) rfl (by rfl) (o_move (F.ev rfl)) fun a F => ?_
  refine lx_pass F (F.want (t := 57) (c := true) rfl rfl rfl (by rfl) rfl) rfl (by rfl) fun a F => ?_
  refine lx_pass F (F.want (t := 57) (c := true) rfl rfl rfl (by rfl) rfl) rfl (by rfl) fun a F => ?_
  refine lx_pass F (F.want (t := 57) (c := true) rfl rfl rfl (by rfl) rfl) rfl (by rfl) fun a F => ?_
  refine lx_pass F (F.want (t := 57) (c := true) rfl rfl rfl (by rfl) rfl) rfl (by rfl) fun a F => ?_
  refine lx_pass F (F.want (t := 57) (c := true) rfl rfl rfl (by rfl) rfl) rfl (by rfl) fun a F => ?_
  refine lx_pass F (F.want (t := 57) (c := true) rfl rfl rfl (by rfl) rfl) rfl (by rfl) fun a F => ?_
  refine lx_value (v := .bool true) F (wanted_none rfl _) rfl (by rfl) (o_pick (b := true) (r := .bool true) (F.ev rfl) rfl (F.ev rfl) rfl) fun a F => ?_
  refine lx_nil ?_
  repeat (first | refine ex_then ?_ | refine ex_block ?_ | refine wp_seq ?_ | refine wp_block ?_ | refine wp_skip ?_)
  refine wp_cond_true (F.ev rfl) ?_
  repeat (first | refine ex_then ?_ | refine ex_block ?_ | refine wp_seq ?_ | refine wp_block ?_ | refine wp_skip ?_)
  refine wp_region_lit ?_
  refine lx_call F (wanted_none rfl _) rfl (by rfl) (run_callF Try.func26 (by kernel_rfl) (by rfl) .nil _) (alive9_any _) fun a w z F => ?_
  replace HM := HM.on z
  clear z
  refine lx_value (v := .bool true) F (wanted_none rfl _) rfl (by rfl) (o_assign (F.ev rfl)) fun a F => ?_
  refine lx_nil ?_
  repeat (first | refine ex_then ?_ | refine ex_block ?_ | refine wp_seq ?_ | refine wp_block ?_ | refine wp_skip ?_)
  refine wp_ret ?_
  repeat (first | refine ex_thenR ?_ | refine ex_blockR ?_)
  exact sx_ret F HM (res_tmp F rfl (s := 4) rfl)

set_option maxRecDepth 100000 in
set_option maxHeartbeats 8000000 in
theorem parts_3 (P Q G H X Y Z W B D : Nat) (e1 e2 : Int)
    (hQ : Q < 2 ^ 256)
    (hX : X < 2 ^ 256)
    (hZ : Z < 2 ^ 256)
    (c1 : ∀ w, Calls Try.prog 17 #[grp P Q G H, num Y] w fun e w' => e = .returned (.tuple #[num B, .int .i64 e1]) ∧ Below w.heap.size w w')
    (c2 : ∀ w, Calls Try.prog 17 #[grp P Q G H, num W] w fun e w' => e = .returned (.tuple #[num D, .int .i64 e2]) ∧ Below w.heap.size w w')
    (he1 : e1 = 0)
    (he2 : e2 = 0)
    (ha : 0 ≤ cmpN X Q)
    (w : World) : Calls Try.prog 8 #[grp P Q G H, arr4 X Y Z W] w fun e w' => e = .returned (.bool true) ∧ Below w.heap.size w w' := by
  refine sx_enter (args := [grp P Q G H, arr4 X Y Z W]) Try.func8 rfl Try.ntmps8 (by rfl) fun a F HM => ?_
  repeat (first | refine ex_then ?_ | refine ex_block ?_ | refine wp_seq ?_ | refine wp_block ?_ | refine wp_skip ?_)
  refine wp_region_lit ?_
  refine lx_new F HM (wanted_none rfl _) rfl (by rfl) (o_boxG (F.ev rfl)) fun a w gg F HM => ?_
  refine lx_new F HM (wanted_none rfl _) rfl (by rfl) (o_boxB (F.ev rfl)) fun a w gl F HM => ?_
  refine lx_value (v := .bool false) F (wanted_none rfl _) rfl (by rfl) (o_assign rfl) fun a F => ?_
  refine lx_nil ?_
  repeat (first | refine ex_then ?_ | refine ex_block ?_ | refine wp_seq ?_ | refine wp_block ?_ | refine wp_skip ?_)
  refine wp_region_lit ?_
  refine lx_value (v := grp P Q G H) F (wanted_none rfl _) rfl (by rfl) (o_loadG (F.ev rfl) (HM.get 1 rfl)) fun a F => ?_
  refine lx_value (v := .pointer (some ⟨gl, 4, none⟩)) F (wanted_none rfl _) rfl (by rfl) (o_idxB1 (F.ev rfl) rfl) fun a F => ?_
  refine lx_value (v := num Y) F (wanted_none rfl _) rfl (by rfl) (o_loadB1 (F.ev rfl) (HM.get 0 rfl)) fun a F => ?_
  refine lx_call F (wanted_none rfl _) rfl (by rfl) (run_callF Try.func17 (by kernel_rfl) (by rfl) (.cons (F.ev rfl) (.cons (F.ev rfl) .nil)) _) (c1 _) fun a w z F => ?_
  replace HM := HM.on z
  clear z
  refine lx_value (v := .tuple #[num B, .int .i64 e1]) F (wanted_none rfl _) rfl (by rfl) (o_move (F.ev rfl)) fun a F => ?_
  refine lx_value (v := num B) F (wanted_none rfl _) rfl (by rfl) (o_extract (F.ev rfl) rfl) fun a F => ?_
  refine lx_value (v := .int .i64 e1) F (wanted_none rfl _) rfl (by rfl) (o_extract (F.ev rfl) rfl) fun a F => ?_
  refine lx_new F HM (wanted_none rfl _) rfl (by rfl) (o_allocN) fun a w gb F HM => ?_
  refine lx_store F HM (wanted_none rfl _) rfl (k := 0) rfl (o_storeN (F.ev rfl) (F.ev rfl) (HM.get 0 rfl)) (M2 := [(gb, 24, ncs B), (gl, 47, a4cs X Y Z W), (gg, 35, gcs P Q G H)]) rfl fun w HM => ?_
  refine lx_value (v := .int .i64 e1) F (wanted_none rfl _) rfl (by rfl) (o_assign (F.ev rfl)) fun a F => ?_
  refine lx_nil ?_
  repeat (first | refine ex_then ?_ | refine ex_block ?_ | refine wp_seq ?_ | refine wp_block ?_ | refine wp_skip ?_)
  refine wp_region_lit ?_
  refine lx_value (v := grp P Q G H) F (wanted_none rfl _) rfl (by rfl) (o_loadG (F.ev rfl) (HM.get 2 rfl)) fun a F => ?_
  refine lx_value (v := .pointer (some ⟨gl, 12, none⟩)) F (wanted_none rfl _) rfl (by rfl) (o_idxB3 (F.ev rfl) rfl) fun a F => ?_
  refine lx_value (v := num W) F (wanted_none rfl _) rfl (by rfl) (o_loadB3 (F.ev rfl) (HM.get 1 rfl)) fun a F => ?_
  refine lx_call F (wanted_none rfl _) rfl (by rfl) (run_callF Try.func17 (by kernel_rfl) (by rfl) (.cons (F.ev rfl) (.cons (F.ev rfl) .nil)) _) (c2 _) fun a w z F => ?_
  replace HM := HM.on z
  clear z
  refine lx_value (v := .tuple #[num D, .int .i64 e2]) F (wanted_none rfl _) rfl (by rfl) (o_move (F.ev rfl)) fun a F => ?_
  refine lx_value (v := num D) F (wanted_none rfl _) rfl (by rfl) (o_extract (F.ev rfl) rfl) fun a F => ?_
  refine lx_value (v := .int .i64 e2) F (wanted_none rfl _) rfl (by rfl) (o_extract (F.ev rfl) rfl) fun a F => ?_
  refine lx_new F HM (wanted_none rfl _) rfl (by rfl) (o_allocN) fun a w gd F HM => ?_
  refine lx_store F HM (wanted_none rfl _) rfl (k := 0) rfl (o_storeN (F.ev rfl) (F.ev rfl) (HM.get 0 rfl)) (M2 := [(gd, 24, ncs D), (gb, 24, ncs B), (gl, 47, a4cs X Y Z W), (gg, 35, gcs P Q G H)]) rfl fun w HM => ?_
  refine lx_value (v := .int .i64 e2) F (wanted_none rfl _) rfl (by rfl) (o_assign (F.ev rfl)) fun a F => ?_
  refine lx_nil ?_
  repeat (first | refine ex_then ?_ | refine ex_block ?_ | refine wp_seq ?_ | refine wp_block ?_ | refine wp_skip ?_)
  refine wp_region_lit ?_
  refine lx_value (v := .int .i64 e1) F (wanted_none rfl _) rfl (by rfl) (o_move (F.ev rfl)) fun a F => ?_
  refine lx_value (v := .bool false) F (wanted_none rfl _) rfl (by rfl) (o_bin (u := .int .i64 e1) (v := .int .i64 0) (fun ρ hx hy => by simp only [execOp, hx, hy]; simp [go_sem, he1]) (F.ev rfl) rfl) fun a F => ?_
  refine lx_value (v := .bool false) F (wanted_none rfl _) rfl (by rfl) (o_move (F.ev rfl)) fun a F => ?_
  refine lx_value (v := .int .i64 e2) F (F.want (t := 45) (c := false) rfl rfl rfl (by rfl) rfl) rfl (by rfl) (o_move (F.ev rfl)) fun a F => ?_
  refine lx_value (v := .bool false) F (F.want (t := 45) (c := false) rfl rfl rfl (by rfl) rfl) rfl (by rfl) (o_bin (u := .int .i64 e2) (v := .int .i64 0) (fun ρ hx hy => by simp only [execOp, hx, hy]; simp [go_sem, he2]) (F.ev rfl) rfl) fun a F => ?_
  refine lx_value (v := .bool false) F (wanted_none rfl _) rfl (by rfl) (o_pick (b := false) (r := .bool false) (F.ev rfl) rfl (F.ev rfl) rfl) fun a F => ?_
  refine lx_value (v := .bool false) F (wanted_none rfl _) rfl (by rfl) (o_move (F.ev rfl)) fun a F => ?_
  refine lx_value (v := .pointer (some ⟨gl, 0, none⟩)) F (F.want (t := 49) (c := false) rfl rfl rfl (by rfl) rfl) rfl (by rfl) (o_idxB0 (F.ev rfl) rfl) fun a F => ?_
  refine lx_value (v := num X) F (F.want (t := 49) (c := false) rfl rfl rfl (by rfl) rfl) rfl (by rfl) (o_loadB0 (F.ev rfl) (HM.get 2 rfl)) fun a F => ?_
  refine lx_value (v := .pointer (some ⟨gg, 4, none⟩)) F (F.want (t := 49) (c := false) rfl rfl rfl (by rfl) rfl) rfl (by rfl) (o_fieldG1 (F.ev rfl)) fun a F => ?_
  refine lx_value (v := num Q) F (F.want (t := 49) (c := false) rfl rfl rfl (by rfl) rfl) rfl (by rfl) (o_loadG1 (F.ev rfl) (HM.get 3 rfl)) fun a F => ?_
  refine lx_call F (F.want (t := 49) (c := false) rfl rfl rfl (by rfl) rfl) rfl (by rfl) (run_callF Try.func24 (by kernel_rfl) (by rfl) (.cons (F.ev rfl) (.cons (F.ev rfl) .nil)) _) ((fun w => cmp_any X Q hX hQ w) _) fun a w z F => ?_
  replace HM := HM.on z
  clear z
  refine lx_value (v := .bool true) F (F.want (t := 49) (c := false) rfl rfl rfl (by rfl) rfl) rfl (by rfl) (o_bin (u := .int .i64 (cmpN X Q)) (v := .int .i64 0) (fun ρ hx hy => by simp only [execOp, hx, hy]; simp [go_sem]; exact ha) (F.ev rfl) rfl) fun a F => ?_
  refine lx_value (v := .bool true) F (wanted_none rfl _) rfl (by rfl) (o_pick (b := false) (r := .bool true) (F.ev rfl) rfl (F.ev rfl) rfl) fun a F => ?_
  refine lx_value (v := .bool true) F (wanted_none rfl _) rfl (by rfl) (o_move (F.ev rfl)) fun a F => ?_
  refine lx_pass F (F.want (t := 57) (c := true) rfl rfl rfl (by rfl) rfl) rfl (by rfl) fun a F => ?_
  refine lx_pass F (F.want (t := 57) (c := true) rfl rfl rfl (by rfl) rfl) rfl (by rfl) fun a F => ?_
  refine lx_pass F (F.want (t := 57) (c := true) rfl rfl rfl (by rfl) rfl) rfl (by rfl) fun a F => ?_
  refine lx_pass F (F.want (t := 57) (c := true) rfl rfl rfl (by rfl) rfl) rfl (by rfl) fun a F => ?_
  refine lx_pass F (F.want (t := 57) (c := true) rfl rfl rfl (by rfl) rfl) rfl (by rfl) fun a F => ?_
  refine lx_pass F (F.want (t := 57) (c := true) rfl rfl rfl (by rfl) rfl) rfl (by rfl) fun a F => ?_
  refine lx_value (v := .bool true) F (wanted_none rfl _) rfl (by rfl) (o_pick (b := true) (r := .bool true) (F.ev rfl) rfl (F.ev rfl) rfl) fun a F => ?_
  refine lx_nil ?_
  repeat (first | refine ex_then ?_ | refine ex_block ?_ | refine wp_seq ?_ | refine wp_block ?_ | refine wp_skip ?_)
  refine wp_cond_true (F.ev rfl) ?_
  repeat (first | refine ex_then ?_ | refine ex_block ?_ | refine wp_seq ?_ | refine wp_block ?_ | refine wp_skip ?_)
  refine wp_region_lit ?_
  refine lx_call F (wanted_none rfl _) rfl (by rfl) (run_callF Try.func26 (by kernel_rfl) (by rfl) .nil _) (alive9_any _) fun a w z F => ?_
  replace HM := HM.on z
  clear z
  refine lx_value (v := .bool true) F (wanted_none rfl _) rfl (by rfl) (o_assign (F.ev rfl)) fun a F => ?_
  refine lx_nil ?_
  repeat (first | refine ex_then ?_ | refine ex_block ?_ | refine wp_seq ?_ | refine wp_block ?_ | refine wp_skip ?_)
  refine wp_ret ?_
  repeat (first | refine ex_thenR ?_ | refine ex_blockR ?_)
  exact sx_ret F HM (res_tmp F rfl (s := 4) rfl)

set_option maxRecDepth 100000 in
set_option maxHeartbeats 8000000 in
theorem parts_4 (P Q G H X Y Z W B D : Nat) (e1 e2 : Int)
    (hQ : Q < 2 ^ 256)
    (hX : X < 2 ^ 256)
    (hZ : Z < 2 ^ 256)
    (c1 : ∀ w, Calls Try.prog 17 #[grp P Q G H, num Y] w fun e w' => e = .returned (.tuple #[num B, .int .i64 e1]) ∧ Below w.heap.size w w')
    (c2 : ∀ w, Calls Try.prog 17 #[grp P Q G H, num W] w fun e w' => e = .returned (.tuple #[num D, .int .i64 e2]) ∧ Below w.heap.size w w')
    (he1 : e1 = 0)
    (he2 : e2 = 0)
    (ha : cmpN X Q < 0)
    (hb : 0 ≤ cmpN Z Q)
    (w : World) : Calls Try.prog 8 #[grp P Q G H, arr4 X Y Z W] w fun e w' => e = .returned (.bool true) ∧ Below w.heap.size w w' := by
  refine sx_enter (args := [grp P Q G H, arr4 X Y Z W]) Try.func8 rfl Try.ntmps8 (by rfl) fun a F HM => ?_
  repeat (first | refine ex_then ?_ | refine ex_block ?_ | refine wp_seq ?_ | refine wp_block ?_ | refine wp_skip ?_)
  refine wp_region_lit ?_
  refine lx_new F HM (wanted_none rfl _) rfl (by rfl) (o_boxG (F.ev rfl)) fun a w gg F HM => ?_
  refine lx_new F HM (wanted_none rfl _) rfl (by rfl) (o_boxB (F.ev rfl)) fun a w gl F HM => ?_
  refine lx_value (v := .bool false) F (wanted_none rfl _) rfl (by rfl) (o_assign rfl) fun a F => ?_
  refine lx_nil ?_
  repeat (first | refine ex_then ?_ | refine ex_block ?_ | refine wp_seq ?_ | refine wp_block ?_ | refine wp_skip ?_)
  refine wp_region_lit ?_
  refine lx_value (v := grp P Q G H) F (wanted_none rfl _) rfl (by rfl) (o_loadG (F.ev rfl) (HM.get 1 rfl)) fun a F => ?_
  refine lx_value (v := .pointer (some ⟨gl, 4, none⟩)) F (wanted_none rfl _) rfl (by rfl) (o_idxB1 (F.ev rfl) rfl) fun a F => ?_
  refine lx_value (v := num Y) F (wanted_none rfl _) rfl (by rfl) (o_loadB1 (F.ev rfl) (HM.get 0 rfl)) fun a F => ?_
  refine lx_call F (wanted_none rfl _) rfl (by rfl) (run_callF Try.func17 (by kernel_rfl) (by rfl) (.cons (F.ev rfl) (.cons (F.ev rfl) .nil)) _) (c1 _) fun a w z F => ?_
  replace HM := HM.on z
  clear z
  refine lx_value (v := .tuple #[num B, .int .i64 e1]) F (wanted_none rfl _) rfl (by rfl) (o_move (F.ev rfl)) fun a F => ?_
  refine lx_value (v := num B) F (wanted_none rfl _) rfl (by rfl) (o_extract (F.ev rfl) rfl) fun a F => ?_
  refine lx_value (v := .int .i64 e1) F (wanted_none rfl _) rfl (by rfl) (o_extract (F.ev rfl) rfl) fun a F => ?_
  refine lx_new F HM (wanted_none rfl _) rfl (by rfl) (o_allocN) fun a w gb F HM => ?_
  refine lx_store F HM (wanted_none rfl _) rfl (k := 0) rfl (o_storeN (F.ev rfl) (F.ev rfl) (HM.get 0 rfl)) (M2 := [(gb, 24, ncs B), (gl, 47, a4cs X Y Z W), (gg, 35, gcs P Q G H)]) rfl fun w HM => ?_
  refine lx_value (v := .int .i64 e1) F (wanted_none rfl _) rfl (by rfl) (o_assign (F.ev rfl)) fun a F => ?_
  refine lx_nil ?_
  repeat (first | refine ex_then ?_ | refine ex_block ?_ | refine wp_seq ?_ | refine wp_block ?_ | refine wp_skip ?_)
  refine wp_region_lit ?_
  refine lx_value (v := grp P Q G H) F (wanted_none rfl _) rfl (by rfl) (o_loadG (F.ev rfl) (HM.get 2 rfl)) fun a F => ?_
  refine lx_value (v := .pointer (some ⟨gl, 12, none⟩)) F (wanted_none rfl _) rfl (by rfl) (o_idxB3 (F.ev rfl) rfl) fun a F => ?_
  refine lx_value (v := num W) F (wanted_none rfl _) rfl (by rfl) (o_loadB3 (F.ev rfl) (HM.get 1 rfl)) fun a F => ?_
  refine lx_call F (wanted_none rfl _) rfl (by rfl) (run_callF Try.func17 (by kernel_rfl) (by rfl) (.cons (F.ev rfl) (.cons (F.ev rfl) .nil)) _) (c2 _) fun a w z F => ?_
  replace HM := HM.on z
  clear z
  refine lx_value (v := .tuple #[num D, .int .i64 e2]) F (wanted_none rfl _) rfl (by rfl) (o_move (F.ev rfl)) fun a F => ?_
  refine lx_value (v := num D) F (wanted_none rfl _) rfl (by rfl) (o_extract (F.ev rfl) rfl) fun a F => ?_
  refine lx_value (v := .int .i64 e2) F (wanted_none rfl _) rfl (by rfl) (o_extract (F.ev rfl) rfl) fun a F => ?_
  refine lx_new F HM (wanted_none rfl _) rfl (by rfl) (o_allocN) fun a w gd F HM => ?_
  refine lx_store F HM (wanted_none rfl _) rfl (k := 0) rfl (o_storeN (F.ev rfl) (F.ev rfl) (HM.get 0 rfl)) (M2 := [(gd, 24, ncs D), (gb, 24, ncs B), (gl, 47, a4cs X Y Z W), (gg, 35, gcs P Q G H)]) rfl fun w HM => ?_
  refine lx_value (v := .int .i64 e2) F (wanted_none rfl _) rfl (by rfl) (o_assign (F.ev rfl)) fun a F => ?_
  refine lx_nil ?_
  repeat (first | refine ex_then ?_ | refine ex_block ?_ | refine wp_seq ?_ | refine wp_block ?_ | refine wp_skip ?_)
  refine wp_region_lit ?_
  refine lx_value (v := .int .i64 e1) F (wanted_none rfl _) rfl (by rfl) (o_move (F.ev rfl)) fun a F => ?_
  refine lx_value (v := .bool false) F (wanted_none rfl _) rfl (by rfl) (o_bin (u := .int .i64 e1) (v := .int .i64 0) (fun ρ hx hy => by simp only [execOp, hx, hy]; simp [go_sem, he1]) (F.ev rfl) rfl) fun a F => ?_
  refine lx_value (v := .bool false) F (wanted_none rfl _) rfl (by rfl) (o_move (F.ev rfl)) fun a F => ?_
  refine lx_value (v := .int .i64 e2) F (F.want (t := 45) (c := false) rfl rfl rfl (by rfl) rfl) rfl (by rfl) (o_move (F.ev rfl)) fun a F => ?_
  refine lx_value (v := .bool false) F (F.want (t := 45) (c := false) rfl rfl rfl (by rfl) rfl) rfl (by rfl) (o_bin (u := .int .i64 e2) (v := .int .i64 0) (fun ρ hx hy => by simp only [execOp, hx, hy]; simp [go_sem, he2]) (F.ev rfl) rfl) fun a F => ?_
  refine lx_value (v := .bool false) F (wanted_none rfl _) rfl (by rfl) (o_pick (b := false) (r := .bool false) (F.ev rfl) rfl (F.ev rfl) rfl) fun a F => ?_
  refine lx_value (v := .bool false) F (wanted_none rfl _) rfl (by rfl) (o_move (F.ev rfl)) fun a F => ?_
  refine lx_value (v := .pointer (some ⟨gl, 0, none⟩)) F (F.want (t := 49) (c := false) rfl rfl rfl (by rfl) rfl) rfl (by rfl) (o_idxB0 (F.ev rfl) rfl) fun a F => ?_
  refine lx_value (v := num X) F (F.want (t := 49) (c := false) rfl rfl rfl (by rfl) rfl) rfl (by rfl) (o_loadB0 (F.ev rfl) (HM.get 2 rfl)) fun a F => ?_
  refine lx_value (v := .pointer (some ⟨gg, 4, none⟩)) F (F.want (t := 49) (c := false) rfl rfl rfl (by rfl) rfl) rfl (by rfl) (o_fieldG1 (F.ev rfl)) fun a F => ?_
  refine lx_value (v := num Q) F (F.want (t := 49) (c := false) rfl rfl rfl (by rfl) rfl) rfl (by rfl) (o_loadG1 (F.ev rfl) (HM.get 3 rfl)) fun a F => ?_
  refine lx_call F (F.want (t := 49) (c := false) rfl rfl rfl (by rfl) rfl) rfl (by rfl) (run_callF Try.func24 (by kernel_rfl) (by rfl) (.cons (F.ev rfl) (.cons (F.ev rfl) .nil)) _) ((fun w => cmp_any X Q hX hQ w) _) fun a w z F => ?_
  replace HM := HM.on z
  clear z
  refine lx_value (v := .bool false) F (F.want (t := 49) (c := false) rfl rfl rfl (by rfl) rfl) rfl (by rfl) (o_bin (u := .int .i64 (cmpN X Q)) (v := .int .i64 0) (fun ρ hx hy => by simp only [execOp, hx, hy]; simp [go_sem]; exact ha) (F.ev rfl) rfl) fun a F => ?_
  refine lx_value (v := .bool false) F (wanted_none rfl _) rfl (by rfl) (o_pick (b := false) (r := .bool false) (F.ev rfl) rfl (F.ev rfl) rfl) fun a F => ?_
  refine lx_value (v := .bool false) F (wanted_none rfl _) rfl (by rfl) (o_move (F.ev rfl)) fun a F => ?_
  refine lx_value (v := .pointer (some ⟨gl, 8, none⟩)) F (F.want (t := 57) (c := false) rfl rfl rfl (by rfl) rfl) rfl (by rfl) (o_idxB2 (F.ev rfl) rfl) fun a F => ?_
  refine lx_value (v := num Z) F (F.want (t := 57) (c := false) rfl rfl rfl (by rfl) rfl) rfl (by rfl) (o_loadB2 (F.ev rfl) (HM.get 2 rfl)) fun a F => ?_
  refine lx_value (v := .pointer (some ⟨gg, 4, none⟩)) F (F.want (t := 57) (c := false) rfl rfl rfl (by rfl) rfl) rfl (by rfl) (o_fieldG1 (F.ev rfl)) fun a F => ?_
  refine lx_value (v := num Q) F (F.want (t := 57) (c := false) rfl rfl rfl (by rfl) rfl) rfl (by rfl) (o_loadG1 (F.ev rfl) (HM.get 3 rfl)) fun a F => ?_
  refine lx_call F (F.want (t := 57) (c := false) rfl rfl rfl (by rfl) rfl) rfl (by rfl) (run_callF Try.func24 (by kernel_rfl) (by rfl) (.cons (F.ev rfl) (.cons (F.ev rfl) .nil)) _) ((fun w => cmp_any Z Q hZ hQ w) _) fun a w z F => ?_
  replace HM := HM.on z
  clear z
  refine lx_value (v := .bool true) F (F.want (t := 57) (c := false) rfl rfl rfl (by rfl) rfl) rfl (by rfl) (o_bin (u := .int .i64 (cmpN Z Q)) (v := .int .i64 0) (fun ρ hx hy => by simp only [execOp, hx, hy]; simp [go_sem]; exact hb) (F.ev rfl) rfl) fun a F => ?_
  refine lx_value (v := .bool true) F (wanted_none rfl _) rfl (by rfl) (o_pick (b := false) (r := .bool true) (F.ev rfl) rfl (F.ev rfl) rfl) fun a F => ?_
  refine lx_nil ?_
  repeat (first | refine ex_then ?_ | refine ex_block ?_ | refine wp_seq ?_ | refine wp_block ?_ | refine wp_skip ?_)
  refine wp_cond_true (F.ev rfl) ?_
  repeat (first | refine ex_then ?_ | refine ex_block ?_ | refine wp_seq ?_ | refine wp_block ?_ | refine wp_skip ?_)
  refine wp_region_lit ?_
  refine lx_call F (wanted_none rfl _) rfl (by rfl) (run_callF Try.func26 (by kernel_rfl) (by rfl) .nil _) (alive9_any _) fun a w z F => ?_
  replace HM := HM.on z
  clear z
  refine lx_value (v := .bool true) F (wanted_none rfl _) rfl (by rfl) (o_assign (F.ev rfl)) fun a F => ?_
  refine lx_nil ?_
  repeat (first | refine ex_then ?_ | refine ex_block ?_ | refine wp_seq ?_ | refine wp_block ?_ | refine wp_skip ?_)
  refine wp_ret ?_
  repeat (first | refine ex_thenR ?_ | refine ex_blockR ?_)
  exact sx_ret F HM (res_tmp F rfl (s := 4) rfl)

set_option maxRecDepth 100000 in
set_option maxHeartbeats 8000000 in
theorem parts_w (P Q G H X Y Z W B D x z u m ta tc k f j v : Nat)
    (hQ : Q < 2 ^ 256)
    (hX : X < 2 ^ 256)
    (hZ : Z < 2 ^ 256)
    (c1 : ∀ w, Calls Try.prog 17 #[grp P Q G H, num Y] w fun e w' => e = .returned (.tuple #[num B, .int .i64 0]) ∧ Below w.heap.size w w')
    (c2 : ∀ w, Calls Try.prog 17 #[grp P Q G H, num W] w fun e w' => e = .returned (.tuple #[num D, .int .i64 0]) ∧ Below w.heap.size w w')
    (ha : cmpN X Q < 0)
    (hb : cmpN Z Q < 0)
    (d1 : ∀ w, Calls Try.prog 16 #[grp P Q G H, num X, num B] w fun e w' => e = .returned (.tuple #[num x, .int .i64 0]) ∧ Below w.heap.size w w')
    (d2 : ∀ w, Calls Try.prog 16 #[grp P Q G H, num Z, num D] w fun e w' => e = .returned (.tuple #[num z, .int .i64 0]) ∧ Below w.heap.size w w')
    (d3 : ∀ w, Calls Try.prog 14 #[grp P Q G H, num x, num z] w fun e w' => e = .returned (.tuple #[num u, .int .i64 0]) ∧ Below w.heap.size w w')
    (d4 : ∀ w, Calls Try.prog 16 #[grp P Q G H, num x, num z] w fun e w' => e = .returned (.tuple #[num m, .int .i64 0]) ∧ Below w.heap.size w w')
    (d5 : ∀ w, Calls Try.prog 16 #[grp P Q G H, num X, num W] w fun e w' => e = .returned (.tuple #[num ta, .int .i64 0]) ∧ Below w.heap.size w w')
    (d6 : ∀ w, Calls Try.prog 16 #[grp P Q G H, num Z, num Y] w fun e w' => e = .returned (.tuple #[num tc, .int .i64 0]) ∧ Below w.heap.size w w')
    (d7 : ∀ w, Calls Try.prog 14 #[grp P Q G H, num ta, num tc] w fun e w' => e = .returned (.tuple #[num k, .int .i64 0]) ∧ Below w.heap.size w w')
    (d8 : ∀ w, Calls Try.prog 16 #[grp P Q G H, num X, num Z] w fun e w' => e = .returned (.tuple #[num f, .int .i64 0]) ∧ Below w.heap.size w w')
    (d9 : ∀ w, Calls Try.prog 16 #[grp P Q G H, num Y, num W] w fun e w' => e = .returned (.tuple #[num j, .int .i64 0]) ∧ Below w.heap.size w w')
    (d10 : ∀ w, Calls Try.prog 17 #[grp P Q G H, num j] w fun e w' => e = .returned (.tuple #[num v, .int .i64 0]) ∧ Below w.heap.size w w')
    (d11 : ∀ w, Calls Try.prog 16 #[grp P Q G H, num k, num v] w fun e w' => e = .returned (.tuple #[num u, .int .i64 0]) ∧ Below w.heap.size w w')
    (d12 : ∀ w, Calls Try.prog 16 #[grp P Q G H, num f, num v] w fun e w' => e = .returned (.tuple #[num m, .int .i64 0]) ∧ Below w.heap.size w w')
    (w : World) : Calls Try.prog 8 #[grp P Q G H, arr4 X Y Z W] w fun e w' => e = .returned (.bool true) ∧ Below w.heap.size w w' := by
  refine sx_enter (args := [grp P Q G H, arr4 X Y Z W]) Try.func8 rfl Try.ntmps8 (by rfl) fun a F HM => ?_
  repeat (first | refine ex_then ?_ | refine ex_block ?_ | refine wp_seq ?_ | refine wp_block ?_ | refine wp_skip ?_)
  refine wp_region_lit ?_
  refine lx_new F HM (wanted_none rfl _) rfl (by rfl) (o_boxG (F.ev rfl)) fun a w gg F HM => ?_
  refine lx_new F HM (wanted_none rfl _) rfl (by rfl) (o_boxB (F.ev rfl)) fun a w gl F HM => ?_
  refine lx_value (v := .bool false) F (wanted_none rfl _) rfl (by rfl) (o_assign rfl) fun a F => ?_
  refine lx_nil ?_
  repeat (first | refine ex_then ?_ | refine ex_block ?_ | refine wp_seq ?_ | refine wp_block ?_ | refine wp_skip ?_)
  refine wp_region_lit ?_
  refine lx_value (v := grp P Q G H) F (wanted_none rfl _) rfl (by rfl) (o_loadG (F.ev rfl) (HM.get 1 rfl)) fun a F => ?_
  refine lx_value (v := .pointer (some ⟨gl, 4, none⟩)) F (wanted_none rfl _) rfl (by rfl) (o_idxB1 (F.ev rfl) rfl) fun a F => ?_
  refine lx_value (v := num Y) F (wanted_none rfl _) rfl (by rfl) (o_loadB1 (F.ev rfl) (HM.get 0 rfl)) fun a F => ?_
  refine lx_call F (wanted_none rfl _) rfl (by rfl) (run_callF Try.func17 (by kernel_rfl) (by rfl) (.cons (F.ev rfl) (.cons (F.ev rfl) .nil)) _) (c1 _) fun a w z F => ?_
  replace HM := HM.on z
  clear z
  refine lx_value (v := .tuple #[num B, .int .i64 0]) F (wanted_none rfl _) rfl (by rfl) (o_move (F.ev rfl)) fun a F => ?_
  refine lx_value (v := num B) F (wanted_none rfl _) rfl (by rfl) (o_extract (F.ev rfl) rfl) fun a F => ?_
  refine lx_value (v := .int .i64 0) F (wanted_none rfl _) rfl (by rfl) (o_extract (F.ev rfl) rfl) fun a F => ?_
  refine lx_new F HM (wanted_none rfl _) rfl (by rfl) (o_allocN) fun a w gb F HM => ?_
  refine lx_store F HM (wanted_none rfl _) rfl (k := 0) rfl (o_storeN (F.ev rfl) (F.ev rfl) (HM.get 0 rfl)) (M2 := [(gb, 24, ncs B), (gl, 47, a4cs X Y Z W), (gg, 35, gcs P Q G H)]) rfl fun w HM => ?_
  refine lx_value (v := .int .i64 0) F (wanted_none rfl _) rfl (by rfl) (o_assign (F.ev rfl)) fun a F => ?_
  refine lx_nil ?_
  repeat (first | refine ex_then ?_ | refine ex_block ?_ | refine wp_seq ?_ | refine wp_block ?_ | refine wp_skip ?_)
  refine wp_region_lit ?_
  refine lx_value (v := grp P Q G H) F (wanted_none rfl _) rfl (by rfl) (o_loadG (F.ev rfl) (HM.get 2 rfl)) fun a F => ?_
  refine lx_value (v := .pointer (some ⟨gl, 12, none⟩)) F (wanted_none rfl _) rfl (by rfl) (o_idxB3 (F.ev rfl) rfl) fun a F => ?_
  refine lx_value (v := num W) F (wanted_none rfl _) rfl (by rfl) (o_loadB3 (F.ev rfl) (HM.get 1 rfl)) fun a F => ?_
  refine lx_call F (wanted_none rfl _) rfl (by rfl) (run_callF Try.func17 (by kernel_rfl) (by rfl) (.cons (F.ev rfl) (.cons (F.ev rfl) .nil)) _) (c2 _) fun a w z F => ?_
  replace HM := HM.on z
  clear z
  refine lx_value (v := .tuple #[num D, .int .i64 0]) F (wanted_none rfl _) rfl (by rfl) (o_move (F.ev rfl)) fun a F => ?_
  refine lx_value (v := num D) F (wanted_none rfl _) rfl (by rfl) (o_extract (F.ev rfl) rfl) fun a F => ?_
  refine lx_value (v := .int .i64 0) F (wanted_none rfl _) rfl (by rfl) (o_extract (F.ev rfl) rfl) fun a F => ?_
  refine lx_new F HM (wanted_none rfl _) rfl (by rfl) (o_allocN) fun a w gd F HM => ?_
  refine lx_store F HM (wanted_none rfl _) rfl (k := 0) rfl (o_storeN (F.ev rfl) (F.ev rfl) (HM.get 0 rfl)) (M2 := [(gd, 24, ncs D), (gb, 24, ncs B), (gl, 47, a4cs X Y Z W), (gg, 35, gcs P Q G H)]) rfl fun w HM => ?_
  refine lx_value (v := .int .i64 0) F (wanted_none rfl _) rfl (by rfl) (o_assign (F.ev rfl)) fun a F => ?_
  refine lx_nil ?_
  repeat (first | refine ex_then ?_ | refine ex_block ?_ | refine wp_seq ?_ | refine wp_block ?_ | refine wp_skip ?_)
  refine wp_region_lit ?_
  refine lx_value (v := .int .i64 0) F (wanted_none rfl _) rfl (by rfl) (o_move (F.ev rfl)) fun a F => ?_
  refine lx_value (v := .bool false) F (wanted_none rfl _) rfl (by rfl) (o_bin (u := .int .i64 0) (v := .int .i64 0) (fun ρ hx hy => by simp only [execOp, hx, hy]; simp [go_sem]) (F.ev rfl) rfl) fun a F => ?_
  refine lx_value (v := .bool false) F (wanted_none rfl _) rfl (by rfl) (o_move (F.ev rfl)) fun a F => ?_
  refine lx_value (v := .int .i64 0) F (F.want (t := 45) (c := false) rfl rfl rfl (by rfl) rfl) rfl (by rfl) (o_move (F.ev rfl)) fun a F => ?_
  refine lx_value (v := .bool false) F (F.want (t := 45) (c := false) rfl rfl rfl (by rfl) rfl) rfl (by rfl) (o_bin (u := .int .i64 0) (v := .int .i64 0) (fun ρ hx hy => by simp only [execOp, hx, hy]; simp [go_sem]) (F.ev rfl) rfl) fun a F => ?_
  refine lx_value (v := .bool false) F (wanted_none rfl _) rfl (by rfl) (o_pick (b := false) (r := .bool false) (F.ev rfl) rfl (F.ev rfl) rfl) fun a F => ?_
  refine lx_value (v := .bool false) F (wanted_none rfl _) rfl (by rfl) (o_move (F.ev rfl)) fun a F => ?_
  refine lx_value (v := .pointer (some ⟨gl, 0, none⟩)) F (F.want (t := 49) (c := false) rfl rfl rfl (by rfl) rfl) rfl (by rfl) (o_idxB0 (F.ev rfl) rfl) fun a F => ?_
  refine lx_value (v := num X) F (F.want (t := 49) (c := false) rfl rfl rfl (by rfl) rfl) rfl (by rfl) (o_loadB0 (F.ev rfl) (HM.get 2 rfl)) fun a F => ?_
  refine lx_value (v := .pointer (some ⟨gg, 4, none⟩)) F (F.want (t := 49) (c := false) rfl rfl rfl (by rfl) rfl) rfl (by rfl) (o_fieldG1 (F.ev rfl)) fun a F => ?_
  refine lx_value (v := num Q) F (F.want (t := 49) (c := false) rfl rfl rfl (by rfl) rfl) rfl (by rfl) (o_loadG1 (F.ev rfl) (HM.get 3 rfl)) fun a F => ?_
  refine lx_call F (F.want (t := 49) (c := false) rfl rfl rfl (by rfl) rfl) rfl (by rfl) (run_callF Try.func24 (by kernel_rfl) (by rfl) (.cons (F.ev rfl) (.cons (F.ev rfl) .nil)) _) ((fun w => cmp_any X Q hX hQ w) _) fun a w z F => ?_
  replace HM := HM.on z
  clear z
  refine lx_value (v := .bool false) F (F.want (t := 49) (c := false) rfl rfl rfl (by rfl) rfl) rfl (by rfl) (o_bin (u := .int .i64 (cmpN X Q)) (v := .int .i64 0) (fun ρ hx hy => by simp only [execOp, hx, hy]; simp [go_sem]; exact ha) (F.ev rfl) rfl) fun a F => ?_
  refine lx_value (v := .bool false) F (wanted_none rfl _) rfl (by rfl) (o_pick (b := false) (r := .bool false) (F.ev rfl) rfl (F.ev rfl) rfl) fun a F => ?_
  refine lx_value (v := .bool false) F (wanted_none rfl _) rfl (by rfl) (o_move (F.ev rfl)) fun a F => ?_
  refine lx_value (v := .pointer (some ⟨gl, 8, none⟩)) F (F.want (t := 57) (c := false) rfl rfl rfl (by rfl) rfl) rfl (by rfl) (o_idxB2 (F.ev rfl) rfl) fun a F => ?_
  refine lx_value (v := num Z) F (F.want (t := 57) (c := false) rfl rfl rfl (by rfl) rfl) rfl (by rfl) (o_loadB2 (F.ev rfl) (HM.get 2 rfl)) fun a F => ?_
  refine lx_value (v := .pointer (some ⟨gg, 4, none⟩)) F (F.want (t := 57) (c := false) rfl rfl rfl (by rfl) rfl) rfl (by rfl) (o_fieldG1 (F.ev rfl)) fun a F => ?_
  refine lx_value (v := num Q) F (F.want (t := 57) (c := false) rfl rfl rfl (by rfl) rfl) rfl (by rfl) (o_loadG1 (F.ev rfl) (HM.get 3 rfl)) fun a F => ?_
  refine lx_call F (F.want (t := 57) (c := false) rfl rfl rfl (by rfl) rfl) rfl (by rfl) (run_callF Try.func24 (by kernel_rfl) (by rfl) (.cons (F.ev rfl) (.cons (F.ev rfl) .nil)) _) ((fun w => cmp_any Z Q hZ hQ w) _) fun a w z F => ?_
  replace HM := HM.on z
  clear z
  refine lx_value (v := .bool false) F (F.want (t := 57) (c := false) rfl rfl rfl (by rfl) rfl) rfl (by rfl) (o_bin (u := .int .i64 (cmpN Z Q)) (v := .int .i64 0) (fun ρ hx hy => by simp only [execOp, hx, hy]; simp [go_sem]; exact hb) (F.ev rfl) rfl) fun a F => ?_
  refine lx_value (v := .bool false) F (wanted_none rfl _) rfl (by rfl) (o_pick (b := false) (r := .bool false) (F.ev rfl) rfl (F.ev rfl) rfl) fun a F => ?_
  refine lx_nil ?_
  repeat (first | refine ex_then ?_ | refine ex_block ?_ | refine wp_seq ?_ | refine wp_block ?_ | refine wp_skip ?_)
  refine wp_cond_false (F.ev rfl) ?_
  repeat (first | refine ex_then ?_ | refine ex_block ?_ | refine wp_seq ?_ | refine wp_block ?_ | refine wp_skip ?_)
  refine wp_region_lit ?_
  refine lx_value (v := grp P Q G H) F (wanted_none rfl _) rfl (by rfl) (o_loadG (F.ev rfl) (HM.get 3 rfl)) fun a F => ?_
  refine lx_value (v := .pointer (some ⟨gl, 0, none⟩)) F (wanted_none rfl _) rfl (by rfl) (o_idxB0 (F.ev rfl) rfl) fun a F => ?_
  refine lx_value (v := num X) F (wanted_none rfl _) rfl (by rfl) (o_loadB0 (F.ev rfl) (HM.get 2 rfl)) fun a F => ?_
  refine lx_value (v := num B) F (wanted_none rfl _) rfl (by rfl) (o_loadN (F.ev rfl) (HM.get 1 rfl)) fun a F => ?_
  refine lx_call F (wanted_none rfl _) rfl (by rfl) (run_callF Try.func16 (by kernel_rfl) (by rfl) (.cons (F.ev rfl) (.cons (F.ev rfl) (.cons (F.ev rfl) .nil))) _) (d1 _) fun a w z F => ?_
  replace HM := HM.on z
  clear z
  refine lx_value (v := .tuple #[num x, .int .i64 0]) F (wanted_none rfl _) rfl (by rfl) (o_move (F.ev rfl)) fun a F => ?_
  refine lx_value (v := num x) F (wanted_none rfl _) rfl (by rfl) (o_extract (F.ev rfl) rfl) fun a F => ?_
  refine lx_value (v := .int .i64 0) F (wanted_none rfl _) rfl (by rfl) (o_extract (F.ev rfl) rfl) fun a F => ?_
  refine lx_new F HM (wanted_none rfl _) rfl (by rfl) (o_allocN) fun a w gx F HM => ?_
  refine lx_store F HM (wanted_none rfl _) rfl (k := 0) rfl (o_storeN (F.ev rfl) (F.ev rfl) (HM.get 0 rfl)) (M2 := [(gx, 24, ncs x), (gd, 24, ncs D), (gb, 24, ncs B), (gl, 47, a4cs X Y Z W), (gg, 35, gcs P Q G H)]) rfl fun w HM => ?_
  refine lx_value (v := .int .i64 0) F (wanted_none rfl _) rfl (by rfl) (o_assign (F.ev rfl)) fun a F => ?_
  refine lx_nil ?_
  repeat (first | refine ex_then ?_ | refine ex_block ?_ | refine wp_seq ?_ | refine wp_block ?_ | refine wp_skip ?_)
  refine wp_region_lit ?_
  refine lx_value (v := grp P Q G H) F (wanted_none rfl _) rfl (by rfl) (o_loadG (F.ev rfl) (HM.get 4 rfl)) fun a F => ?_
  refine lx_value (v := .pointer (some ⟨gl, 8, none⟩)) F (wanted_none rfl _) rfl (by rfl) (o_idxB2 (F.ev rfl) rfl) fun a F => ?_
  refine lx_value (v := num Z) F (wanted_none rfl _) rfl (by rfl) (o_loadB2 (F.ev rfl) (HM.get 3 rfl)) fun a F => ?_
  refine lx_value (v := num D) F (wanted_none rfl _) rfl (by rfl) (o_loadN (F.ev rfl) (HM.get 1 rfl)) fun a F => ?_
  refine lx_call F (wanted_none rfl _) rfl (by rfl) (run_callF Try.func16 (by kernel_rfl) (by rfl) (.cons (F.ev rfl) (.cons (F.ev rfl) (.cons (F.ev rfl) .nil))) _) (d2 _) fun a w z F => ?_
  replace HM := HM.on z
  clear z
  refine lx_value (v := .tuple #[num z, .int .i64 0]) F (wanted_none rfl _) rfl (by rfl) (o_move (F.ev rfl)) fun a F => ?_
  refine lx_value (v := num z) F (wanted_none rfl _) rfl (by rfl) (o_extract (F.ev rfl) rfl) fun a F => ?_
  refine lx_value (v := .int .i64 0) F (wanted_none rfl _) rfl (by rfl) (o_extract (F.ev rfl) rfl) fun a F => ?_
  refine lx_new F HM (wanted_none rfl _) rfl (by rfl) (o_allocN) fun a w gy F HM => ?_
  refine lx_store F HM (wanted_none rfl _) rfl (k := 0) rfl (o_storeN (F.ev rfl) (F.ev rfl) (HM.get 0 rfl)) (M2 := [(gy, 24, ncs z), (gx, 24, ncs x), (gd, 24, ncs D), (gb, 24, ncs B), (gl, 47, a4cs X Y Z W), (gg, 35, gcs P Q G H)]) rfl fun w HM => ?_
  refine lx_value (v := .int .i64 0) F (wanted_none rfl _) rfl (by rfl) (o_assign (F.ev rfl)) fun a F => ?_
  refine lx_nil ?_
  repeat (first | refine ex_then ?_ | refine ex_block ?_ | refine wp_seq ?_ | refine wp_block ?_ | refine wp_skip ?_)
  refine wp_region_lit ?_
  refine lx_value (v := grp P Q G H) F (wanted_none rfl _) rfl (by rfl) (o_loadG (F.ev rfl) (HM.get 5 rfl)) fun a F => ?_
  refine lx_value (v := num x) F (wanted_none rfl _) rfl (by rfl) (o_loadN (F.ev rfl) (HM.get 1 rfl)) fun a F => ?_
  refine lx_value (v := num z) F (wanted_none rfl _) rfl (by rfl) (o_loadN (F.ev rfl) (HM.get 0 rfl)) fun a F => ?_
  refine lx_call F (wanted_none rfl _) rfl (by rfl) (run_callF Try.func14 (by kernel_rfl) (by rfl) (.cons (F.ev rfl) (.cons (F.ev rfl) (.cons (F.ev rfl) .nil))) _) (d3 _) fun a w z F => ?_
  replace HM := HM.on z
  clear z
  refine lx_value (v := .tuple #[num u, .int .i64 0]) F (wanted_none rfl _) rfl (by rfl) (o_move (F.ev rfl)) fun a F => ?_
  refine lx_value (v := num u) F (wanted_none rfl _) rfl (by rfl) (o_extract (F.ev rfl) rfl) fun a F => ?_
  refine lx_value (v := .int .i64 0) F (wanted_none rfl _) rfl (by rfl) (o_extract (F.ev rfl) rfl) fun a F => ?_
  refine lx_new F HM (wanted_none rfl _) rfl (by rfl) (o_allocN) fun a w gs F HM => ?_
  refine lx_store F HM (wanted_none rfl _) rfl (k := 0) rfl (o_storeN (F.ev rfl) (F.ev rfl) (HM.get 0 rfl)) (M2 := [(gs, 24, ncs u), (gy, 24, ncs z), (gx, 24, ncs x), (gd, 24, ncs D), (gb, 24, ncs B), (gl, 47, a4cs X Y Z W), (gg, 35, gcs P Q G H)]) rfl fun w HM => ?_
  refine lx_value (v := .int .i64 0) F (wanted_none rfl _) rfl (by rfl) (o_assign (F.ev rfl)) fun a F => ?_
  refine lx_nil ?_
  repeat (first | refine ex_then ?_ | refine ex_block ?_ | refine wp_seq ?_ | refine wp_block ?_ | refine wp_skip ?_)
  refine wp_region_lit ?_
  refine lx_value (v := grp P Q G H) F (wanted_none rfl _) rfl (by rfl) (o_loadG (F.ev rfl) (HM.get 6 rfl)) fun a F => ?_
  refine lx_value (v := num x) F (wanted_none rfl _) rfl (by rfl) (o_loadN (F.ev rfl) (HM.get 2 rfl)) fun a F => ?_
  refine lx_value (v := num z) F (wanted_none rfl _) rfl (by rfl) (o_loadN (F.ev rfl) (HM.get 1 rfl)) fun a F => ?_
  refine lx_call F (wanted_none rfl _) rfl (by rfl) (run_callF Try.func16 (by kernel_rfl) (by rfl) (.cons (F.ev rfl) (.cons (F.ev rfl) (.cons (F.ev rfl) .nil))) _) (d4 _) fun a w z F => ?_
  replace HM := HM.on z
  clear z
  refine lx_value (v := .tuple #[num m, .int .i64 0]) F (wanted_none rfl _) rfl (by rfl) (o_move (F.ev rfl)) fun a F => ?_
  refine lx_value (v := num m) F (wanted_none rfl _) rfl (by rfl) (o_extract (F.ev rfl) rfl) fun a F => ?_
  refine lx_value (v := .int .i64 0) F (wanted_none rfl _) rfl (by rfl) (o_extract (F.ev rfl) rfl) fun a F => ?_
  refine lx_new F HM (wanted_none rfl _) rfl (by rfl) (o_allocN) fun a w gm F HM => ?_
  refine lx_store F HM (wanted_none rfl _) rfl (k := 0) rfl (o_storeN (F.ev rfl) (F.ev rfl) (HM.get 0 rfl)) (M2 := [(gm, 24, ncs m), (gs, 24, ncs u), (gy, 24, ncs z), (gx, 24, ncs x), (gd, 24, ncs D), (gb, 24, ncs B), (gl, 47, a4cs X Y Z W), (gg, 35, gcs P Q G H)]) rfl fun w HM => ?_
  refine lx_value (v := .int .i64 0) F (wanted_none rfl _) rfl (by rfl) (o_assign (F.ev rfl)) fun a F => ?_
  refine lx_nil ?_
  repeat (first | refine ex_then ?_ | refine ex_block ?_ | refine wp_seq ?_ | refine wp_block ?_ | refine wp_skip ?_)
  refine wp_region_lit ?_
  refine lx_value (v := .int .i64 0) F (wanted_none rfl _) rfl (by rfl) (o_move (F.ev rfl)) fun a F => ?_
  refine lx_value (v := .bool false) F (wanted_none rfl _) rfl (by rfl) (o_bin (u := .int .i64 0) (v := .int .i64 0) (fun ρ hx hy => by simp only [execOp, hx, hy]; simp [go_sem]) (F.ev rfl) rfl) fun a F => ?_
  refine lx_value (v := .bool false) F (wanted_none rfl _) rfl (by rfl) (o_move (F.ev rfl)) fun a F => ?_
  refine lx_value (v := .int .i64 0) F (F.want (t := 98) (c := false) rfl rfl rfl (by rfl) rfl) rfl (by rfl) (o_move (F.ev rfl)) fun a F => ?_
  refine lx_value (v := .bool false) F (F.want (t := 98) (c := false) rfl rfl rfl (by rfl) rfl) rfl (by rfl) (o_bin (u := .int .i64 0) (v := .int .i64 0) (fun ρ hx hy => by simp only [execOp, hx, hy]; simp [go_sem]) (F.ev rfl) rfl) fun a F => ?_
  refine lx_value (v := .bool false) F (wanted_none rfl _) rfl (by rfl) (o_pick (b := false) (r := .bool false) (F.ev rfl) rfl (F.ev rfl) rfl) fun a F => ?_
  refine lx_value (v := .bool false) F (wanted_none rfl _) rfl (by rfl) (o_move (F.ev rfl)) fun a F => ?_
  refine lx_value (v := .int .i64 0) F (F.want (t := 102) (c := false) rfl rfl rfl (by rfl) rfl) rfl (by rfl) (o_move (F.ev rfl)) fun a F => ?_
  refine lx_value (v := .bool false) F (F.want (t := 102) (c := false) rfl rfl rfl (by rfl) rfl) rfl (by rfl) (o_bin (u := .int .i64 0) (v := .int .i64 0) (fun ρ hx hy => by simp only [execOp, hx, hy]; simp [go_sem]) (F.ev rfl) rfl) fun a F => ?_
  refine lx_value (v := .bool false) F (wanted_none rfl _) rfl (by rfl) (o_pick (b := false) (r := .bool false) (F.ev rfl) rfl (F.ev rfl) rfl) fun a F => ?_
  refine lx_value (v := .bool false) F (wanted_none rfl _) rfl (by rfl) (o_move (F.ev rfl)) fun a F => ?_
  refine lx_value (v := .int .i64 0) F (F.want (t := 106) (c := false) rfl rfl rfl (by rfl) rfl) rfl (by rfl) (o_move (F.ev rfl)) fun a F => ?_
  refine lx_value (v := .bool false) F (F.want (t := 106) (c := false) rfl rfl rfl (by rfl) rfl) rfl (by rfl) (o_bin (u := .int .i64 0) (v := .int .i64 0) (fun ρ hx hy => by simp only [execOp, hx, hy]; simp [go_sem]) (F.ev rfl) rfl) fun a F => ?_
  refine lx_value (v := .bool false) F (wanted_none rfl _) rfl (by rfl) (o_pick (b := false) (r := .bool false) (F.ev rfl) rfl (F.ev rfl) rfl) fun a F => ?_
  refine lx_nil ?_
  repeat (first | refine ex_then ?_ | refine ex_block ?_ | refine wp_seq ?_ | refine wp_block ?_ | refine wp_skip ?_)
  refine wp_cond_false (F.ev rfl) ?_
  repeat (first | refine ex_then ?_ | refine ex_block ?_ | refine wp_seq ?_ | refine wp_block ?_ | refine wp_skip ?_)
  refine wp_region_lit ?_
  refine lx_value (v := grp P Q G H) F (wanted_none rfl _) rfl (by rfl) (o_loadG (F.ev rfl) (HM.get 7 rfl)) fun a F => ?_
  refine lx_value (v := .pointer (some ⟨gl, 0, none⟩)) F (wanted_none rfl _) rfl (by rfl) (o_idxB0 (F.ev rfl) rfl) fun a F => ?_
  refine lx_value (v := num X) F (wanted_none rfl _) rfl (by rfl) (o_loadB0 (F.ev rfl) (HM.get 6 rfl)) fun a F => ?_
  refine lx_value (v := .pointer (some ⟨gl, 12, none⟩)) F (wanted_none rfl _) rfl (by rfl) (o_idxB3 (F.ev rfl) rfl) fun a F => ?_
  refine lx_value (v := num W) F (wanted_none rfl _) rfl (by rfl) (o_loadB3 (F.ev rfl) (HM.get 6 rfl)) fun a F => ?_
  refine lx_call F (wanted_none rfl _) rfl (by rfl) (run_callF Try.func16 (by kernel_rfl) (by rfl) (.cons (F.ev rfl) (.cons (F.ev rfl) (.cons (F.ev rfl) .nil))) _) (d5 _) fun a w z F => ?_
  replace HM := HM.on z
  clear z
  refine lx_value (v := .tuple #[num ta, .int .i64 0]) F (wanted_none rfl _) rfl (by rfl) (o_move (F.ev rfl)) fun a F => ?_
  refine lx_value (v := num ta) F (wanted_none rfl _) rfl (by rfl) (o_extract (F.ev rfl) rfl) fun a F => ?_
  refine lx_value (v := .int .i64 0) F (wanted_none rfl _) rfl (by rfl) (o_extract (F.ev rfl) rfl) fun a F => ?_
  refine lx_new F HM (wanted_none rfl _) rfl (by rfl) (o_allocN) fun a w gp F HM => ?_
  refine lx_store F HM (wanted_none rfl _) rfl (k := 0) rfl (o_storeN (F.ev rfl) (F.ev rfl) (HM.get 0 rfl)) (M2 := [(gp, 24, ncs ta), (gm, 24, ncs m), (gs, 24, ncs u), (gy, 24, ncs z), (gx, 24, ncs x), (gd, 24, ncs D), (gb, 24, ncs B), (gl, 47, a4cs X Y Z W), (gg, 35, gcs P Q G H)]) rfl fun w HM => ?_
  refine lx_value (v := .int .i64 0) F (wanted_none rfl _) rfl (by rfl) (o_assign (F.ev rfl)) fun a F => ?_
  refine lx_nil ?_
  repeat (first | refine ex_then ?_ | refine ex_block ?_ | refine wp_seq ?_ | refine wp_block ?_ | refine wp_skip ?_)
  refine wp_region_lit ?_
  refine lx_value (v := grp P Q G H) F (wanted_none rfl _) rfl (by rfl) (o_loadG (F.ev rfl) (HM.get 8 rfl)) fun a F => ?_
  refine lx_value (v := .pointer (some ⟨gl, 8, none⟩)) F (wanted_none rfl _) rfl (by rfl) (o_idxB2 (F.ev rfl) rfl) fun a F => ?_
  refine lx_value (v := num Z) F (wanted_none rfl _) rfl (by rfl) (o_loadB2 (F.ev rfl) (HM.get 7 rfl)) fun a F => ?_
  refine lx_value (v := .pointer (some ⟨gl, 4, none⟩)) F (wanted_none rfl _) rfl (by rfl) (o_idxB1 (F.ev rfl) rfl) fun a F => ?_
  refine lx_value (v := num Y) F (wanted_none rfl _) rfl (by rfl) (o_loadB1 (F.ev rfl) (HM.get 7 rfl)) fun a F => ?_
  refine lx_call F (wanted_none rfl _) rfl (by rfl) (run_callF Try.func16 (by kernel_rfl) (by rfl) (.cons (F.ev rfl) (.cons (F.ev rfl) (.cons (F.ev rfl) .nil))) _) (d6 _) fun a w z F => ?_
  replace HM := HM.on z
  clear z
  refine lx_value (v := .tuple #[num tc, .int .i64 0]) F (wanted_none rfl _) rfl (by rfl) (o_move (F.ev rfl)) fun a F => ?_
  refine lx_value (v := num tc) F (wanted_none rfl _) rfl (by rfl) (o_extract (F.ev rfl) rfl) fun a F => ?_
  refine lx_value (v := .int .i64 0) F (wanted_none rfl _) rfl (by rfl) (o_extract (F.ev rfl) rfl) fun a F => ?_
  refine lx_new F HM (wanted_none rfl _) rfl (by rfl) (o_allocN) fun a w gq F HM => ?_
  refine lx_store F HM (wanted_none rfl _) rfl (k := 0) rfl (o_storeN (F.ev rfl) (F.ev rfl) (HM.get 0 rfl)) (M2 := [(gq, 24, ncs tc), (gp, 24, ncs ta), (gm, 24, ncs m), (gs, 24, ncs u), (gy, 24, ncs z), (gx, 24, ncs x), (gd, 24, ncs D), (gb, 24, ncs B), (gl, 47, a4cs X Y Z W), (gg, 35, gcs P Q G H)]) rfl fun w HM => ?_
  refine lx_value (v := .int .i64 0) F (wanted_none rfl _) rfl (by rfl) (o_assign (F.ev rfl)) fun a F => ?_
  refine lx_nil ?_
  repeat (first | refine ex_then ?_ | refine ex_block ?_ | refine wp_seq ?_ | refine wp_block ?_ | refine wp_skip ?_)
  refine wp_region_lit ?_
  refine lx_value (v := grp P Q G H) F (wanted_none rfl _) rfl (by rfl) (o_loadG (F.ev rfl) (HM.get 9 rfl)) fun a F => ?_
  refine lx_value (v := num ta) F (wanted_none rfl _) rfl (by rfl) (o_loadN (F.ev rfl) (HM.get 1 rfl)) fun a F => ?_
  refine lx_value (v := num tc) F (wanted_none rfl _) rfl (by rfl) (o_loadN (F.ev rfl) (HM.get 0 rfl)) fun a F => ?_
  refine lx_call F (wanted_none rfl _) rfl (by rfl) (run_callF Try.func14 (by kernel_rfl) (by rfl) (.cons (F.ev rfl) (.cons (F.ev rfl) (.cons (F.ev rfl) .nil))) _) (d7 _) fun a w z F => ?_
  replace HM := HM.on z
  clear z
  refine lx_value (v := .tuple #[num k, .int .i64 0]) F (wanted_none rfl _) rfl (by rfl) (o_move (F.ev rfl)) fun a F => ?_
  refine lx_value (v := num k) F (wanted_none rfl _) rfl (by rfl) (o_extract (F.ev rfl) rfl) fun a F => ?_
  refine lx_value (v := .int .i64 0) F (wanted_none rfl _) rfl (by rfl) (o_extract (F.ev rfl) rfl) fun a F => ?_
  refine lx_new F HM (wanted_none rfl _) rfl (by rfl) (o_allocN) fun a w gt F HM => ?_
  refine lx_store F HM (wanted_none rfl _) rfl (k := 0) rfl (o_storeN (F.ev rfl) (F.ev rfl) (HM.get 0 rfl)) (M2 := [(gt, 24, ncs k), (gq, 24, ncs tc), (gp, 24, ncs ta), (gm, 24, ncs m), (gs, 24, ncs u), (gy, 24, ncs z), (gx, 24, ncs x), (gd, 24, ncs D), (gb, 24, ncs B), (gl, 47, a4cs X Y Z W), (gg, 35, gcs P Q G H)]) rfl fun w HM => ?_
  refine lx_value (v := .int .i64 0) F (wanted_none rfl _) rfl (by rfl) (o_assign (F.ev rfl)) fun a F => ?_
  refine lx_nil ?_
  repeat (first | refine ex_then ?_ | refine ex_block ?_ | refine wp_seq ?_ | refine wp_block ?_ | refine wp_skip ?_)
  refine wp_region_lit ?_
  refine lx_value (v := grp P Q G H) F (wanted_none rfl _) rfl (by rfl) (o_loadG (F.ev rfl) (HM.get 10 rfl)) fun a F => ?_
  refine lx_value (v := .pointer (some ⟨gl, 0, none⟩)) F (wanted_none rfl _) rfl (by rfl) (o_idxB0 (F.ev rfl) rfl) fun a F => ?_
  refine lx_value (v := num X) F (wanted_none rfl _) rfl (by rfl) (o_loadB0 (F.ev rfl) (HM.get 9 rfl)) fun a F => ?_
  refine lx_value (v := .pointer (some ⟨gl, 8, none⟩)) F (wanted_none rfl _) rfl (by rfl) (o_idxB2 (F.ev rfl) rfl) fun a F => ?_
  refine lx_value (v := num Z) F (wanted_none rfl _) rfl (by rfl) (o_loadB2 (F.ev rfl) (HM.get 9 rfl)) fun a F => ?_
  refine lx_call F (wanted_none rfl _) rfl (by rfl) (run_callF Try.func16 (by kernel_rfl) (by rfl) (.cons (F.ev rfl) (.cons (F.ev rfl) (.cons (F.ev rfl) .nil))) _) (d8 _) fun a w z F => ?_
  replace HM := HM.on z
  clear z
  refine lx_value (v := .tuple #[num f, .int .i64 0]) F (wanted_none rfl _) rfl (by rfl) (o_move (F.ev rfl)) fun a F => ?_
  refine lx_value (v := num f) F (wanted_none rfl _) rfl (by rfl) (o_extract (F.ev rfl) rfl) fun a F => ?_
  refine lx_value (v := .int .i64 0) F (wanted_none rfl _) rfl (by rfl) (o_extract (F.ev rfl) rfl) fun a F => ?_
  refine lx_new F HM (wanted_none rfl _) rfl (by rfl) (o_allocN) fun a w gc F HM => ?_
  refine lx_store F HM (wanted_none rfl _) rfl (k := 0) rfl (o_storeN (F.ev rfl) (F.ev rfl) (HM.get 0 rfl)) (M2 := [(gc, 24, ncs f), (gt, 24, ncs k), (gq, 24, ncs tc), (gp, 24, ncs ta), (gm, 24, ncs m), (gs, 24, ncs u), (gy, 24, ncs z), (gx, 24, ncs x), (gd, 24, ncs D), (gb, 24, ncs B), (gl, 47, a4cs X Y Z W), (gg, 35, gcs P Q G H)]) rfl fun w HM => ?_
  refine lx_value (v := .int .i64 0) F (wanted_none rfl _) rfl (by rfl) (o_assign (F.ev rfl)) fun a F => ?_
  refine lx_nil ?_
  repeat (first | refine ex_then ?_ | refine ex_block ?_ | refine wp_seq ?_ | refine wp_block ?_ | refine wp_skip ?_)
  refine wp_region_lit ?_
  refine lx_value (v := grp P Q G H) F (wanted_none rfl _) rfl (by rfl) (o_loadG (F.ev rfl) (HM.get 11 rfl)) fun a F => ?_
  refine lx_value (v := .pointer (some ⟨gl, 4, none⟩)) F (wanted_none rfl _) rfl (by rfl) (o_idxB1 (F.ev rfl) rfl) fun a F => ?_
  refine lx_value (v := num Y) F (wanted_none rfl _) rfl (by rfl) (o_loadB1 (F.ev rfl) (HM.get 10 rfl)) fun a F => ?_
  refine lx_value (v := .pointer (some ⟨gl, 12, none⟩)) F (wanted_none rfl _) rfl (by rfl) (o_idxB3 (F.ev rfl) rfl) fun a F => ?_
  refine lx_value (v := num W) F (wanted_none rfl _) rfl (by rfl) (o_loadB3 (F.ev rfl) (HM.get 10 rfl)) fun a F => ?_
  refine lx_call F (wanted_none rfl _) rfl (by rfl) (run_callF Try.func16 (by kernel_rfl) (by rfl) (.cons (F.ev rfl) (.cons (F.ev rfl) (.cons (F.ev rfl) .nil))) _) (d9 _) fun a w z F => ?_
  replace HM := HM.on z
  clear z
  refine lx_value (v := .tuple #[num j, .int .i64 0]) F (wanted_none rfl _) rfl (by rfl) (o_move (F.ev rfl)) fun a F => ?_
  refine lx_value (v := num j) F (wanted_none rfl _) rfl (by rfl) (o_extract (F.ev rfl) rfl) fun a F => ?_
  refine lx_value (v := .int .i64 0) F (wanted_none rfl _) rfl (by rfl) (o_extract (F.ev rfl) rfl) fun a F => ?_
  refine lx_new F HM (wanted_none rfl _) rfl (by rfl) (o_allocN) fun a w ge F HM => ?_
  refine lx_store F HM (wanted_none rfl _) rfl (k := 0) rfl (o_storeN (F.ev rfl) (F.ev rfl) (HM.get 0 rfl)) (M2 := [(ge, 24, ncs j), (gc, 24, ncs f), (gt, 24, ncs k), (gq, 24, ncs tc), (gp, 24, ncs ta), (gm, 24, ncs m), (gs, 24, ncs u), (gy, 24, ncs z), (gx, 24, ncs x), (gd, 24, ncs D), (gb, 24, ncs B), (gl, 47, a4cs X Y Z W), (gg, 35, gcs P Q G H)]) rfl fun w HM => ?_
  refine lx_value (v := .int .i64 0) F (wanted_none rfl _) rfl (by rfl) (o_assign (F.ev rfl)) fun a F => ?_
  refine lx_nil ?_
  repeat (first | refine ex_then ?_ | refine ex_block ?_ | refine wp_seq ?_ | refine wp_block ?_ | refine wp_skip ?_)
  refine wp_region_lit ?_
  refine lx_value (v := grp P Q G H) F (wanted_none rfl _) rfl (by rfl) (o_loadG (F.ev rfl) (HM.get 12 rfl)) fun a F => ?_
  refine lx_value (v := num j) F (wanted_none rfl _) rfl (by rfl) (o_loadN (F.ev rfl) (HM.get 0 rfl)) fun a F => ?_
  refine lx_call F (wanted_none rfl _) rfl (by rfl) (run_callF Try.func17 (by kernel_rfl) (by rfl) (.cons (F.ev rfl) (.cons (F.ev rfl) .nil)) _) (d10 _) fun a w z F => ?_
  replace HM := HM.on z
  clear z
  refine lx_value (v := .tuple #[num v, .int .i64 0]) F (wanted_none rfl _) rfl (by rfl) (o_move (F.ev rfl)) fun a F => ?_
  refine lx_value (v := num v) F (wanted_none rfl _) rfl (by rfl) (o_extract (F.ev rfl) rfl) fun a F => ?_
  refine lx_value (v := .int .i64 0) F (wanted_none rfl _) rfl (by rfl) (o_extract (F.ev rfl) rfl) fun a F => ?_
  refine lx_new F HM (wanted_none rfl _) rfl (by rfl) (o_allocN) fun a w gv F HM => ?_
  refine lx_store F HM (wanted_none rfl _) rfl (k := 0) rfl (o_storeN (F.ev rfl) (F.ev rfl) (HM.get 0 rfl)) (M2 := [(gv, 24, ncs v), (ge, 24, ncs j), (gc, 24, ncs f), (gt, 24, ncs k), (gq, 24, ncs tc), (gp, 24, ncs ta), (gm, 24, ncs m), (gs, 24, ncs u), (gy, 24, ncs z), (gx, 24, ncs x), (gd, 24, ncs D), (gb, 24, ncs B), (gl, 47, a4cs X Y Z W), (gg, 35, gcs P Q G H)]) rfl fun w HM => ?_
  refine lx_value (v := .int .i64 0) F (wanted_none rfl _) rfl (by rfl) (o_assign (F.ev rfl)) fun a F => ?_
  refine lx_nil ?_
  repeat (first | refine ex_then ?_ | refine ex_block ?_ | refine wp_seq ?_ | refine wp_block ?_ | refine wp_skip ?_)
  refine wp_region_lit ?_
  refine lx_value (v := grp P Q G H) F (wanted_none rfl _) rfl (by rfl) (o_loadG (F.ev rfl) (HM.get 13 rfl)) fun a F => ?_
  refine lx_value (v := num k) F (wanted_none rfl _) rfl (by rfl) (o_loadN (F.ev rfl) (HM.get 3 rfl)) fun a F => ?_
  refine lx_value (v := num v) F (wanted_none rfl _) rfl (by rfl) (o_loadN (F.ev rfl) (HM.get 0 rfl)) fun a F => ?_
  refine lx_call F (wanted_none rfl _) rfl (by rfl) (run_callF Try.func16 (by kernel_rfl) (by rfl) (.cons (F.ev rfl) (.cons (F.ev rfl) (.cons (F.ev rfl) .nil))) _) (d11 _) fun a w z F => ?_
  replace HM := HM.on z
  clear z
  refine lx_value (v := .tuple #[num u, .int .i64 0]) F (wanted_none rfl _) rfl (by rfl) (o_move (F.ev rfl)) fun a F => ?_
  refine lx_value (v := num u) F (wanted_none rfl _) rfl (by rfl) (o_extract (F.ev rfl) rfl) fun a F => ?_
  refine lx_value (v := .int .i64 0) F (wanted_none rfl _) rfl (by rfl) (o_extract (F.ev rfl) rfl) fun a F => ?_
  refine lx_new F HM (wanted_none rfl _) rfl (by rfl) (o_allocN) fun a w go F HM => ?_
  refine lx_store F HM (wanted_none rfl _) rfl (k := 0) rfl (o_storeN (F.ev rfl) (F.ev rfl) (HM.get 0 rfl)) (M2 := [(go, 24, ncs u), (gv, 24, ncs v), (ge, 24, ncs j), (gc, 24, ncs f), (gt, 24, ncs k), (gq, 24, ncs tc), (gp, 24, ncs ta), (gm, 24, ncs m), (gs, 24, ncs u), (gy, 24, ncs z), (gx, 24, ncs x), (gd, 24, ncs D), (gb, 24, ncs B), (gl, 47, a4cs X Y Z W), (gg, 35, gcs P Q G H)]) rfl fun w HM => ?_
  refine lx_value (v := .int .i64 0) F (wanted_none rfl _) rfl (by rfl) (o_assign (F.ev rfl)) fun a F => ?_
  refine lx_nil ?_
  repeat (first | refine ex_then ?_ | refine ex_block ?_ | refine wp_seq ?_ | refine wp_block ?_ | refine wp_skip ?_)
  refine wp_region_lit ?_
  refine lx_value (v := grp P Q G H) F (wanted_none rfl _) rfl (by rfl) (o_loadG (F.ev rfl) (HM.get 14 rfl)) fun a F => ?_
  refine lx_value (v := num f) F (wanted_none rfl _) rfl (by rfl) (o_loadN (F.ev rfl) (HM.get 3 rfl)) fun a F => ?_
  refine lx_value (v := num v) F (wanted_none rfl _) rfl (by rfl) (o_loadN (F.ev rfl) (HM.get 1 rfl)) fun a F => ?_
  refine lx_call F (wanted_none rfl _) rfl (by rfl) (run_callF Try.func16 (by kernel_rfl) (by rfl) (.cons (F.ev rfl) (.cons (F.ev rfl) (.cons (F.ev rfl) .nil))) _) (d12 _) fun a w z F => ?_
  replace HM := HM.on z
  clear z
  refine lx_value (v := .tuple #[num m, .int .i64 0]) F (wanted_none rfl _) rfl (by rfl) (o_move (F.ev rfl)) fun a F => ?_
  refine lx_value (v := num m) F (wanted_none rfl _) rfl (by rfl) (o_extract (F.ev rfl) rfl) fun a F => ?_
  refine lx_value (v := .int .i64 0) F (wanted_none rfl _) rfl (by rfl) (o_extract (F.ev rfl) rfl) fun a F => ?_
  refine lx_new F HM (wanted_none rfl _) rfl (by rfl) (o_allocN) fun a w gw F HM => ?_
  refine lx_store F HM (wanted_none rfl _) rfl (k := 0) rfl (o_storeN (F.ev rfl) (F.ev rfl) (HM.get 0 rfl)) (M2 := [(gw, 24, ncs m), (go, 24, ncs u), (gv, 24, ncs v), (ge, 24, ncs j), (gc, 24, ncs f), (gt, 24, ncs k), (gq, 24, ncs tc), (gp, 24, ncs ta), (gm, 24, ncs m), (gs, 24, ncs u), (gy, 24, ncs z), (gx, 24, ncs x), (gd, 24, ncs D), (gb, 24, ncs B), (gl, 47, a4cs X Y Z W), (gg, 35, gcs P Q G H)]) rfl fun w HM => ?_
  refine lx_value (v := .int .i64 0) F (wanted_none rfl _) rfl (by rfl) (o_assign (F.ev rfl)) fun a F => ?_
  refine lx_nil ?_
  repeat (first | refine ex_then ?_ | refine ex_block ?_ | refine wp_seq ?_ | refine wp_block ?_ | refine wp_skip ?_)
  refine wp_region_lit ?_
  refine lx_call F (wanted_none rfl _) rfl (by rfl) (run_callF Try.func26 (by kernel_rfl) (by rfl) .nil _) (alive9_any _) fun a w z F => ?_
  replace HM := HM.on z
  clear z
  refine lx_value (v := .bool true) F (wanted_none rfl _) rfl (by rfl) (o_move (F.ev rfl)) fun a F => ?_
  refine lx_value (v := .int .i64 0) F (F.want (t := 174) (c := true) rfl rfl rfl (by rfl) rfl) rfl (by rfl) (o_move (F.ev rfl)) fun a F => ?_
  refine lx_value (v := .bool true) F (F.want (t := 174) (c := true) rfl rfl rfl (by rfl) rfl) rfl (by rfl) (o_bin (u := .int .i64 0) (v := .int .i64 0) (fun ρ hx hy => by simp only [execOp, hx, hy]; simp [go_sem]) (F.ev rfl) rfl) fun a F => ?_
  refine lx_value (v := .bool true) F (wanted_none rfl _) rfl (by rfl) (o_pick (b := true) (r := .bool true) (F.ev rfl) (F.ev rfl) rfl rfl) fun a F => ?_
  refine lx_value (v := .bool true) F (wanted_none rfl _) rfl (by rfl) (o_move (F.ev rfl)) fun a F => ?_
  refine lx_value (v := .int .i64 0) F (F.want (t := 178) (c := true) rfl rfl rfl (by rfl) rfl) rfl (by rfl) (o_move (F.ev rfl)) fun a F => ?_
  refine lx_value (v := .bool true) F (F.want (t := 178) (c := true) rfl rfl rfl (by rfl) rfl) rfl (by rfl) (o_bin (u := .int .i64 0) (v := .int .i64 0) (fun ρ hx hy => by simp only [execOp, hx, hy]; simp [go_sem]) (F.ev rfl) rfl) fun a F => ?_
  refine lx_value (v := .bool true) F (wanted_none rfl _) rfl (by rfl) (o_pick (b := true) (r := .bool true) (F.ev rfl) (F.ev rfl) rfl rfl) fun a F => ?_
  refine lx_value (v := .bool true) F (wanted_none rfl _) rfl (by rfl) (o_move (F.ev rfl)) fun a F => ?_
  refine lx_value (v := .int .i64 0) F (F.want (t := 182) (c := true) rfl rfl rfl (by rfl) rfl) rfl (by rfl) (o_move (F.ev rfl)) fun a F => ?_
  refine lx_value (v := .bool true) F (F.want (t := 182) (c := true) rfl rfl rfl (by rfl) rfl) rfl (by rfl) (o_bin (u := .int .i64 0) (v := .int .i64 0) (fun ρ hx hy => by simp only [execOp, hx, hy]; simp [go_sem]) (F.ev rfl) rfl) fun a F => ?_
  refine lx_value (v := .bool true) F (wanted_none rfl _) rfl (by rfl) (o_pick (b := true) (r := .bool true) (F.ev rfl) (F.ev rfl) rfl rfl) fun a F => ?_
  refine lx_value (v := .bool true) F (wanted_none rfl _) rfl (by rfl) (o_move (F.ev rfl)) fun a F => ?_
  refine lx_value (v := .int .i64 0) F (F.want (t := 186) (c := true) rfl rfl rfl (by rfl) rfl) rfl (by rfl) (o_move (F.ev rfl)) fun a F => ?_
  refine lx_value (v := .bool true) F (F.want (t := 186) (c := true) rfl rfl rfl (by rfl) rfl) rfl (by rfl) (o_bin (u := .int .i64 0) (v := .int .i64 0) (fun ρ hx hy => by simp only [execOp, hx, hy]; simp [go_sem]) (F.ev rfl) rfl) fun a F => ?_
  refine lx_value (v := .bool true) F (wanted_none rfl _) rfl (by rfl) (o_pick (b := true) (r := .bool true) (F.ev rfl) (F.ev rfl) rfl rfl) fun a F => ?_
  refine lx_value (v := .bool true) F (wanted_none rfl _) rfl (by rfl) (o_move (F.ev rfl)) fun a F => ?_
  refine lx_value (v := .int .i64 0) F (F.want (t := 190) (c := true) rfl rfl rfl (by rfl) rfl) rfl (by rfl) (o_move (F.ev rfl)) fun a F => ?_
  refine lx_value (v := .bool true) F (F.want (t := 190) (c := true) rfl rfl rfl (by rfl) rfl) rfl (by rfl) (o_bin (u := .int .i64 0) (v := .int .i64 0) (fun ρ hx hy => by simp only [execOp, hx, hy]; simp [go_sem]) (F.ev rfl) rfl) fun a F => ?_
  refine lx_value (v := .bool true) F (wanted_none rfl _) rfl (by rfl) (o_pick (b := true) (r := .bool true) (F.ev rfl) (F.ev rfl) rfl rfl) fun a F => ?_
  refine lx_value (v := .bool true) F (wanted_none rfl _) rfl (by rfl) (o_move (F.ev rfl)) fun a F => ?_
  refine lx_value (v := .int .i64 0) F (F.want (t := 194) (c := true) rfl rfl rfl (by rfl) rfl) rfl (by rfl) (o_move (F.ev rfl)) fun a F => ?_
  refine lx_value (v := .bool true) F (F.want (t := 194) (c := true) rfl rfl rfl (by rfl) rfl) rfl (by rfl) (o_bin (u := .int .i64 0) (v := .int .i64 0) (fun ρ hx hy => by simp only [execOp, hx, hy]; simp [go_sem]) (F.ev rfl) rfl) fun a F => ?_
  refine lx_value (v := .bool true) F (wanted_none rfl _) rfl (by rfl) (o_pick (b := true) (r := .bool true) (F.ev rfl) (F.ev rfl) rfl rfl) fun a F => ?_
  refine lx_value (v := .bool true) F (wanted_none rfl _) rfl (by rfl) (o_move (F.ev rfl)) fun a F => ?_
  refine lx_value (v := .int .i64 0) F (F.want (t := 198) (c := true) rfl rfl rfl (by rfl) rfl) rfl (by rfl) (o_move (F.ev rfl)) fun a F => ?_
  refine lx_value (v := .bool true) F (F.want (t := 198) (c := true) rfl rfl rfl (by rfl) rfl) rfl (by rfl) (o_bin (u := .int .i64 0) (v := .int .i64 0) (fun ρ hx hy => by simp only [execOp, hx, hy]; simp [go_sem]) (F.ev rfl) rfl) fun a F => ?_
  refine lx_value (v := .bool true) F (wanted_none rfl _) rfl (by rfl) (o_pick (b := true) (r := .bool true) (F.ev rfl) (F.ev rfl) rfl rfl) fun a F => ?_
  refine lx_value (v := .bool true) F (wanted_none rfl _) rfl (by rfl) (o_move (F.ev rfl)) fun a F => ?_
  refine lx_value (v := .int .i64 0) F (F.want (t := 202) (c := true) rfl rfl rfl (by rfl) rfl) rfl (by rfl) (o_move (F.ev rfl)) fun a F => ?_
  refine lx_value (v := .bool true) F (F.want (t := 202) (c := true) rfl rfl rfl (by rfl) rfl) rfl (by rfl) (o_bin (u := .int .i64 0) (v := .int .i64 0) (fun ρ hx hy => by simp only [execOp, hx, hy]; simp [go_sem]) (F.ev rfl) rfl) fun a F => ?_
  refine lx_value (v := .bool true) F (wanted_none rfl _) rfl (by rfl) (o_pick (b := true) (r := .bool true) (F.ev rfl) (F.ev rfl) rfl rfl) fun a F => ?_
  refine lx_value (v := .bool true) F (wanted_none rfl _) rfl (by rfl) (o_move (F.ev rfl)) fun a F => ?_
  refine lx_value (v := num u) F (F.want (t := 206) (c := true) rfl rfl rfl (by rfl) rfl) rfl (by rfl) (o_loadN (F.ev rfl) (HM.get 9 rfl)) fun a F => ?_
  refine lx_value (v := num u) F (F.want (t := 206) (c := true) rfl rfl rfl (by rfl) rfl) rfl (by rfl) (o_loadN (F.ev rfl) (HM.get 1 rfl)) fun a F => ?_
  refine lx_value (v := .bool true) F (F.want (t := 206) (c := true) rfl rfl rfl (by rfl) rfl) rfl (by rfl) (o_eqlS (F.ev rfl) (F.ev rfl)) fun a F => ?_
  refine lx_value (v := .bool true) F (wanted_none rfl _) rfl (by rfl) (o_pick (b := true) (r := .bool true) (F.ev rfl) (F.ev rfl) rfl rfl) fun a F => ?_
  refine lx_value (v := .bool true) F (wanted_none rfl _) rfl (by rfl) (o_move (F.ev rfl)) fun a F => ?_
  refine lx_value (v := num m) F (F.want (t := 211) (c := true) rfl rfl rfl (by rfl) rfl) rfl (by rfl) (o_loadN (F.ev rfl) (HM.get 8 rfl)) fun a F => ?_
  refine lx_value (v := num m) F (F.want (t := 211) (c := true) rfl rfl rfl (by rfl) rfl) rfl (by rfl) (o_loadN (F.ev rfl) (HM.get 0 rfl)) fun a F => ?_
  refine lx_value (v := .bool true) F (F.want (t := 211) (c := true) rfl rfl rfl (by rfl) rfl) rfl (by rfl) (o_eqlS (F.ev rfl) (F.ev rfl)) fun a F => ?_
  refine lx_value (v := .bool true) F (wanted_none rfl _) rfl (by rfl) (o_pick (b := true) (r := .bool true) (F.ev rfl) (F.ev rfl) rfl rfl) fun a F => ?_
  refine lx_value (v := .bool true) F (wanted_none rfl _) rfl (by rfl) (o_assign (F.ev rfl)) fun a F => ?_
  refine lx_nil ?_
  repeat (first | refine ex_then ?_ | refine ex_block ?_ | refine wp_seq ?_ | refine wp_block ?_ | refine wp_skip ?_)
  refine wp_ret ?_
  repeat (first | refine ex_thenR ?_ | refine ex_blockR ?_)
  exact sx_ret F HM (res_tmp F rfl (s := 4) rfl)

theorem parts_walk (P Q G H X Y Z W : Nat) (hQ : Q < 2 ^ 256) (hX : X < 2 ^ 256) (hY : Y < 2 ^ 256) (hZ : Z < 2 ^ 256) (hW : W < 2 ^ 256) (w : World) : Calls Try.prog 8 #[grp P Q G H, arr4 X Y Z W] w fun e w' => e = .returned (.bool true) ∧ Below w.heap.size w w' := by
  have inv : ∀ A, A < 2 ^ 256 → (∃ V, 1 < Q ∧ A < Q ∧ V < Q ∧ A * V % Q = 1 ∧ (∀ w, Calls Try.prog 17 #[grp P Q G H, num A] w fun e w' => e = .returned (.tuple #[num V, .int .i64 0]) ∧ Below w.heap.size w w')) ∨ (∃ e1 : Int, e1 ≠ 0 ∧ (∀ w, Calls Try.prog 17 #[grp P Q G H, num A] w fun e w' => e = .returned (.tuple #[num 0, .int .i64 e1]) ∧ Below w.heap.size w w')) := fun A hA => by
    by_cases h : 1 < Q ∧ A < Q
    · by_cases hg : Nat.gcd A Q = 1
      · obtain ⟨V, hV, hAV⟩ := inv_there A Q h.1 hg
        exact Or.inl ⟨V, h.1, h.2, hV, hAV, sinv_yes P Q G H A V hQ h.1 h.2 hV hAV⟩
      · exact Or.inr ⟨7, by decide, sinv_none P Q G H A hQ h.1 h.2 hg⟩
    · exact Or.inr ⟨1, by decide, sinv_no P Q G H A hQ hA h⟩
  rcases inv Y hY with ⟨B, h1, hy, hB, hYB, c1⟩ | ⟨e1, he1, c1⟩
  · rcases inv W hW with ⟨D, _, hw, hD, hWD, c2⟩ | ⟨e2, he2, c2⟩
    · by_cases hx : X < Q
      · by_cases hz : Z < Q
        · have lt : ∀ n, n % Q < Q := fun n => Nat.mod_lt _ (by omega)
          have M := fun a b (ha : a < Q) (hb : b < Q) => smul_yes P Q G H a b hQ h1 ha hb
          have mm : ∀ a b, a * b % Q = (a % Q) * (b % Q) % Q := fun a b => Nat.mul_mod a b Q
          have i1 : (Y * W % Q) * (B * D % Q) % Q = 1 := by
            rw [← Nat.mul_mod, Nat.mul_mul_mul_comm, Nat.mul_mod, hYB, hWD, Nat.mul_one, Nat.mod_eq_of_lt h1]
          have t1 : ((X * W % Q + Z * Y % Q) % Q) * (B * D % Q) % Q = (X * B % Q + Z * D % Q) % Q := by
            rw [← Nat.add_mod, ← Nat.mul_mod, ← Nat.add_mod, Nat.add_mul, Nat.mul_mul_mul_comm X W B D, Nat.mul_comm B D, Nat.mul_mul_mul_comm Z Y D B, Nat.add_mod, Nat.mul_mod (X * B), hWD, Nat.mul_mod (Z * D), hYB, Nat.mul_one, Nat.mul_one, Nat.mod_mod, Nat.mod_mod, ← Nat.add_mod]
          have t2 : (X * Z % Q) * (B * D % Q) % Q = (X * B % Q) * (Z * D % Q) % Q := by
            rw [← Nat.mul_mod, ← Nat.mul_mod, Nat.mul_mul_mul_comm]
          have d11 := M ((X * W % Q + Z * Y % Q) % Q) (B * D % Q) (lt _) (lt _)
          rw [t1] at d11
          have d12 := M (X * Z % Q) (B * D % Q) (lt _) (lt _)
          rw [t2] at d12
          exact parts_w P Q G H X Y Z W B D _ _ _ _ _ _ _ _ _ _ hQ hX hZ c1 c2 (cmpN_neg hx) (cmpN_neg hz) (M X B hx hB) (M Z D hz hD) (sadd_yes P Q G H _ _ hQ h1 (lt _) (lt _)) (M _ _ (lt _) (lt _))
            (M X W hx hw) (M Z Y hz hy) (sadd_yes P Q G H _ _ hQ h1 (lt _) (lt _)) (M X Z hx hz) (M Y W hy hw) (sinv_yes P Q G H _ _ hQ h1 (lt _) (lt _) i1) d11 d12 w
        · exact parts_4 P Q G H X Y Z W B D 0 0 hQ hX hZ c1 c2 rfl rfl (cmpN_neg hx) (cmpN_ge (by omega)) w
      · exact parts_3 P Q G H X Y Z W B D 0 0 hQ hX hZ c1 c2 rfl rfl (cmpN_ge (by omega)) w
    · exact parts_2 P Q G H X Y Z W B 0 0 e2 hQ hX hZ c1 c2 rfl he2 w
  · rcases inv W hW with ⟨D, _, hw, hD, hWD, c2⟩ | ⟨e2, he2, c2⟩
    · exact parts_1 P Q G H X Y Z W 0 D e1 0 hQ hX hZ c1 c2 he1 w
    · exact parts_1 P Q G H X Y Z W 0 0 e1 e2 hQ hX hZ c1 c2 he1 w
end Go.Proofs.Ytodlpmepoakdlaa
