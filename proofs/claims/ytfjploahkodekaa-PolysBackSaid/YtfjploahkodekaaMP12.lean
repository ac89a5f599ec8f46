/-
  PolysThrough: walked.
-/
import Derived.Deep.Cut
import Derived.Test.YtfjploahkodekaaMP11
import Derived.Test.YtfjploahkodekaaMShort
namespace Go.Proofs.Ytfjploahkodekaa
set_option maxRecDepth 100000
open Go.RowKit
set_option linter.unusedSimpArgs false
set_option linter.unusedVariables false
attribute [local go_sem ↓] Go.wp_at_zero Go.wp_at_succ

set_option maxRecDepth 100000 in
set_option maxHeartbeats 800000 in
theorem pth_l1 (P Q G H n cap m capv : Nat) (pa pb : Option Addr) (xs vs : List Nat) (w0 : World) (hQ : Q < 2 ^ 256) (r : RN w0.heap.size w0 pa n cap xs) (rv : RN w0.heap.size w0 pb m capv vs) (hn : 20 < n) : Calls Try.prog 3 #[grp P Q G H, .slice pa n cap, .slice pb m capv] w0 fun e w' => e = .returned (.bool true) ∧ Below w0.heap.size w0 w' := by
  refine sx_enter (args := [grp P Q G H, .slice pa n cap, .slice pb m capv]) Try.func3 rfl Try.ntmps3 (by rfl) fun a F HM => ?_
  repeat (first | refine ex_then ?_ | refine ex_block ?_ | refine wp_seq ?_ | refine wp_block ?_ | refine wp_skip ?_)
  refine wp_region_lit ?_
  refine lx_new F HM (wanted_none rfl _) rfl (by rfl) (o_boxG (F.ev rfl)) fun a w gg F HM => ?_
  refine lx_value (v := .bool false) F (wanted_none rfl _) rfl (by rfl) (o_assign rfl) fun a F => ?_
  refine lx_nil ?_
  repeat (first | refine ex_then ?_ | refine ex_block ?_ | refine wp_seq ?_ | refine wp_block ?_ | refine wp_skip ?_)
  refine wp_region_lit ?_
  refine lx_call F (wanted_none rfl _) rfl (by rfl) (run_callF Try.func7 (by kernel_rfl) (by rfl) .nil _) (alive10_any _) fun a w z F => ?_
  replace HM := HM.on z
  clear z
  refine lx_value (v := .bool false) F (wanted_none rfl _) rfl (by rfl) (o_not (b := true) (r := false) (F.ev rfl) rfl) fun a F => ?_
  refine lx_value (v := .bool false) F (wanted_none rfl _) rfl (by rfl) (o_move (F.ev rfl)) fun a F => ?_
  refine lx_value (v := .slice pa n cap) F (F.want (t := 14) (c := false) rfl rfl rfl (by rfl) rfl) rfl (by rfl) (o_move (F.ev rfl)) fun a F => ?_
  refine lx_value (v := .int .i64 (n : Nat)) F (F.want (t := 14) (c := false) rfl rfl rfl (by rfl) rfl) rfl (by rfl) (o_len (F.ev rfl)) fun a F => ?_
  refine lx_value (v := .bool true) F (F.want (t := 14) (c := false) rfl rfl rfl (by rfl) rfl) rfl (by rfl) (o_bin (u := .int .i64 (n : Nat)) (v := .int .i64 20) (fun ρ hx hy => by simp only [execOp, hx, hy]; simp [go_sem]; omega) (F.ev rfl) rfl) fun a F => ?_
  refine lx_value (v := .bool true) F (wanted_none rfl _) rfl (by rfl) (o_pick (b := false) (r := .bool true) (F.ev rfl) rfl (F.ev rfl) rfl) fun a F => ?_
  refine lx_value (v := .bool true) F (wanted_none rfl _) rfl (by rfl) (o_move (F.ev rfl)) fun a F => ?_
  refine lx_pass F (F.want (t := 19) (c := true) rfl rfl rfl (by rfl) rfl) rfl (by rfl) fun a F => ?_
  refine lx_pass F (F.want (t := 19) (c := true) rfl rfl rfl (by rfl) rfl) rfl (by rfl) fun a F => ?_
  refine lx_pass F (F.want (t := 19) (c := true) rfl rfl rfl (by rfl) rfl) rfl (by rfl) fun a F => ?_
  refine lx_value (v := .bool true) F (wanted_none rfl _) rfl (by rfl) (o_pick (b := true) (r := .bool true) (F.ev rfl) rfl (F.ev rfl) rfl) fun a F => ?_
  refine lx_nil ?_
  repeat (first | refine ex_then ?_ | refine ex_block ?_ | refine wp_seq ?_ | refine wp_block ?_ | refine wp_skip ?_)
  refine wp_cond_true (F.ev rfl) ?_
  repeat (first | refine ex_then ?_ | refine ex_block ?_ | refine wp_seq ?_ | refine wp_block ?_ | refine wp_skip ?_)
  refine wp_region_lit ?_
  refine lx_call F (wanted_none rfl _) rfl (by rfl) (run_callF Try.func7 (by kernel_rfl) (by rfl) .nil _) (alive10_any _) fun a w z F => ?_
  replace HM := HM.on z
  clear z
  refine lx_value (v := .bool true) F (wanted_none rfl _) rfl (by rfl) (o_assign (F.ev rfl)) fun a F => ?_
  refine lx_nil ?_
  repeat (first | refine ex_then ?_ | refine ex_block ?_ | refine wp_seq ?_ | refine wp_block ?_ | refine wp_skip ?_)
  refine wp_ret ?_
  repeat (first | refine ex_thenR ?_ | refine ex_blockR ?_)
  exact sx_ret F HM (res_tmp F rfl (s := 6) rfl)

set_option maxRecDepth 100000 in
set_option maxHeartbeats 800000 in
theorem pth_l2 (P Q G H n cap m capv : Nat) (pa pb : Option Addr) (xs vs : List Nat) (w0 : World) (hQ : Q < 2 ^ 256) (r : RN w0.heap.size w0 pa n cap xs) (rv : RN w0.heap.size w0 pb m capv vs) (hn : ¬ 20 < n) (hm : 20 < m) : Calls Try.prog 3 #[grp P Q G H, .slice pa n cap, .slice pb m capv] w0 fun e w' => e = .returned (.bool true) ∧ Below w0.heap.size w0 w' := by
  refine sx_enter (args := [grp P Q G H, .slice pa n cap, .slice pb m capv]) Try.func3 rfl Try.ntmps3 (by rfl) fun a F HM => ?_
  repeat (first | refine ex_then ?_ | refine ex_block ?_ | refine wp_seq ?_ | refine wp_block ?_ | refine wp_skip ?_)
  refine wp_region_lit ?_
  refine lx_new F HM (wanted_none rfl _) rfl (by rfl) (o_boxG (F.ev rfl)) fun a w gg F HM => ?_
  refine lx_value (v := .bool false) F (wanted_none rfl _) rfl (by rfl) (o_assign rfl) fun a F => ?_
  refine lx_nil ?_
  repeat (first | refine ex_then ?_ | refine ex_block ?_ | refine wp_seq ?_ | refine wp_block ?_ | refine wp_skip ?_)
  refine wp_region_lit ?_
  refine lx_call F (wanted_none rfl _) rfl (by rfl) (run_callF Try.func7 (by kernel_rfl) (by rfl) .nil _) (alive10_any _) fun a w z F => ?_
  replace HM := HM.on z
  clear z
  refine lx_value (v := .bool false) F (wanted_none rfl _) rfl (by rfl) (o_not (b := true) (r := false) (F.ev rfl) rfl) fun a F => ?_
  refine lx_value (v := .bool false) F (wanted_none rfl _) rfl (by rfl) (o_move (F.ev rfl)) fun a F => ?_
  refine lx_value (v := .slice pa n cap) F (F.want (t := 14) (c := false) rfl rfl rfl (by rfl) rfl) rfl (by rfl) (o_move (F.ev rfl)) fun a F => ?_
  refine lx_value (v := .int .i64 (n : Nat)) F (F.want (t := 14) (c := false) rfl rfl rfl (by rfl) rfl) rfl (by rfl) (o_len (F.ev rfl)) fun a F => ?_
  refine lx_value (v := .bool false) F (F.want (t := 14) (c := false) rfl rfl rfl (by rfl) rfl) rfl (by rfl) (o_bin (u := .int .i64 (n : Nat)) (v := .int .i64 20) (fun ρ hx hy => by simp only [execOp, hx, hy]; simp [go_sem]; omega) (F.ev rfl) rfl) fun a F => ?_
  refine lx_value (v := .bool false) F (wanted_none rfl _) rfl (by rfl) (o_pick (b := false) (r := .bool false) (F.ev rfl) rfl (F.ev rfl) rfl) fun a F => ?_
  refine lx_value (v := .bool false) F (wanted_none rfl _) rfl (by rfl) (o_move (F.ev rfl)) fun a F => ?_
  refine lx_value (v := .slice pb m capv) F (F.want (t := 19) (c := false) rfl rfl rfl (by rfl) rfl) rfl (by rfl) (o_move (F.ev rfl)) fun a F => ?_
  refine lx_value (v := .int .i64 (m : Nat)) F (F.want (t := 19) (c := false) rfl rfl rfl (by rfl) rfl) rfl (by rfl) (o_len (F.ev rfl)) fun a F => ?_
  refine lx_value (v := .bool true) F (F.want (t := 19) (c := false) rfl rfl rfl (by rfl) rfl) rfl (by rfl) (o_bin (u := .int .i64 (m : Nat)) (v := .int .i64 20) (fun ρ hx hy => by simp only [execOp, hx, hy]; simp [go_sem]; omega) (F.ev rfl) rfl) fun a F => ?_
  refine lx_value (v := .bool true) F (wanted_none rfl _) rfl (by rfl) (o_pick (b := false) (r := .bool true) (F.ev rfl) rfl (F.ev rfl) rfl) fun a F => ?_
  refine lx_nil ?_
  repeat (first | refine ex_then ?_ | refine ex_block ?_ | refine wp_seq ?_ | refine wp_block ?_ | refine wp_skip ?_)
  refine wp_cond_true (F.ev rfl) ?_
  repeat (first | refine ex_then ?_ | refine ex_block ?_ | refine wp_seq ?_ | refine wp_block ?_ | refine wp_skip ?_)
  refine wp_region_lit ?_
  refine lx_call F (wanted_none rfl _) rfl (by rfl) (run_callF Try.func7 (by kernel_rfl) (by rfl) .nil _) (alive10_any _) fun a w z F => ?_
  replace HM := HM.on z
  clear z
  refine lx_value (v := .bool true) F (wanted_none rfl _) rfl (by rfl) (o_assign (F.ev rfl)) fun a F => ?_
  refine lx_nil ?_
  repeat (first | refine ex_then ?_ | refine ex_block ?_ | refine wp_seq ?_ | refine wp_block ?_ | refine wp_skip ?_)
  refine wp_ret ?_
  repeat (first | refine ex_thenR ?_ | refine ex_blockR ?_)
  exact sx_ret F HM (res_tmp F rfl (s := 6) rfl)

set_option maxRecDepth 100000 in
set_option maxHeartbeats 800000 in
theorem pth_b1 (P Q G H n cap m capv : Nat) (pa pb : Option Addr) (xs vs : List Nat) (w0 : World) (hQ : Q < 2 ^ 256) (r : RN w0.heap.size w0 pa n cap xs) (rv : RN w0.heap.size w0 pb m capv vs) (hn : ¬ 20 < n) (hm : ¬ 20 < m) (hb : thrB Q xs vs = false) : Calls Try.prog 3 #[grp P Q G H, .slice pa n cap, .slice pb m capv] w0 fun e w' => e = .returned (.bool true) ∧ Below w0.heap.size w0 w' := by
  refine sx_enter (args := [grp P Q G H, .slice pa n cap, .slice pb m capv]) Try.func3 rfl Try.ntmps3 (by rfl) fun a F HM => ?_
  repeat (first | refine ex_then ?_ | refine ex_block ?_ | refine wp_seq ?_ | refine wp_block ?_ | refine wp_skip ?_)
  refine wp_region_lit ?_
  refine lx_new F HM (wanted_none rfl _) rfl (by rfl) (o_boxG (F.ev rfl)) fun a w gg F HM => ?_
  refine lx_value (v := .bool false) F (wanted_none rfl _) rfl (by rfl) (o_assign rfl) fun a F => ?_
  refine lx_nil ?_
  repeat (first | refine ex_then ?_ | refine ex_block ?_ | refine wp_seq ?_ | refine wp_block ?_ | refine wp_skip ?_)
  refine wp_region_lit ?_
  refine lx_call F (wanted_none rfl _) rfl (by rfl) (run_callF Try.func7 (by kernel_rfl) (by rfl) .nil _) (alive10_any _) fun a w z F => ?_
  replace HM := HM.on z
  clear z
  refine lx_value (v := .bool false) F (wanted_none rfl _) rfl (by rfl) (o_not (b := true) (r := false) (F.ev rfl) rfl) fun a F => ?_
  refine lx_value (v := .bool false) F (wanted_none rfl _) rfl (by rfl) (o_move (F.ev rfl)) fun a F => ?_
  refine lx_value (v := .slice pa n cap) F (F.want (t := 14) (c := false) rfl rfl rfl (by rfl) rfl) rfl (by rfl) (o_move (F.ev rfl)) fun a F => ?_
  refine lx_value (v := .int .i64 (n : Nat)) F (F.want (t := 14) (c := false) rfl rfl rfl (by rfl) rfl) rfl (by rfl) (o_len (F.ev rfl)) fun a F => ?_
  refine lx_value (v := .bool false) F (F.want (t := 14) (c := false) rfl rfl rfl (by rfl) rfl) rfl (by rfl) (o_bin (u := .int .i64 (n : Nat)) (v := .int .i64 20) (fun ρ hx hy => by simp only [execOp, hx, hy]; simp [go_sem]; omega) (F.ev rfl) rfl) fun a F => ?_
  refine lx_value (v := .bool false) F (wanted_none rfl _) rfl (by rfl) (o_pick (b := false) (r := .bool false) (F.ev rfl) rfl (F.ev rfl) rfl) fun a F => ?_
  refine lx_value (v := .bool false) F (wanted_none rfl _) rfl (by rfl) (o_move (F.ev rfl)) fun a F => ?_
  refine lx_value (v := .slice pb m capv) F (F.want (t := 19) (c := false) rfl rfl rfl (by rfl) rfl) rfl (by rfl) (o_move (F.ev rfl)) fun a F => ?_
  refine lx_value (v := .int .i64 (m : Nat)) F (F.want (t := 19) (c := false) rfl rfl rfl (by rfl) rfl) rfl (by rfl) (o_len (F.ev rfl)) fun a F => ?_
  refine lx_value (v := .bool false) F (F.want (t := 19) (c := false) rfl rfl rfl (by rfl) rfl) rfl (by rfl) (o_bin (u := .int .i64 (m : Nat)) (v := .int .i64 20) (fun ρ hx hy => by simp only [execOp, hx, hy]; simp [go_sem]; omega) (F.ev rfl) rfl) fun a F => ?_
  refine lx_value (v := .bool false) F (wanted_none rfl _) rfl (by rfl) (o_pick (b := false) (r := .bool false) (F.ev rfl) rfl (F.ev rfl) rfl) fun a F => ?_
  refine lx_nil ?_
  repeat (first | refine ex_then ?_ | refine ex_block ?_ | refine wp_seq ?_ | refine wp_block ?_ | refine wp_skip ?_)
  refine wp_cond_false (F.ev rfl) ?_
  repeat (first | refine ex_then ?_ | refine ex_block ?_ | refine wp_seq ?_ | refine wp_block ?_ | refine wp_skip ?_)
  refine wp_region_lit ?_
  refine lx_value (v := grp P Q G H) F (wanted_none rfl _) rfl (by rfl) (o_loadG (F.ev rfl) (HM.get 0 rfl)) fun a F => ?_
  refine lx_value (v := .slice pa n cap) F (wanted_none rfl _) rfl (by rfl) (o_move (F.ev rfl)) fun a F => ?_
  refine lx_value (v := .slice pb m capv) F (wanted_none rfl _) rfl (by rfl) (o_move (F.ev rfl)) fun a F => ?_
  refine lx_call F (wanted_none rfl _) rfl (by rfl) (run_callF Try.func8 (by kernel_rfl) (by rfl) (.cons (F.ev rfl) (.cons (F.ev rfl) (.cons (F.ev rfl) .nil))) _) (thr_no P Q G H n cap m capv pa pb xs vs _ hQ (r.call HM.bel HM.bel.size) (rv.call HM.bel HM.bel.size) hb) fun a w z F => ?_
  replace HM := HM.on z
  clear z
  refine lx_value (v := .tuple #[.slice none 0 0, .int .i64 1]) F (wanted_none rfl _) rfl (by rfl) (o_move (F.ev rfl)) fun a F => ?_
  refine lx_value (v := .slice none 0 0) F (wanted_none rfl _) rfl (by rfl) (o_extract (F.ev rfl) rfl) fun a F => ?_
  refine lx_value (v := .int .i64 1) F (wanted_none rfl _) rfl (by rfl) (o_extract (F.ev rfl) rfl) fun a F => ?_
  refine lx_value (v := .slice none 0 0) F (wanted_none rfl _) rfl (by rfl) (o_assign (F.ev rfl)) fun a F => ?_
  refine lx_value (v := .int .i64 1) F (wanted_none rfl _) rfl (by rfl) (o_assign (F.ev rfl)) fun a F => ?_
  refine lx_nil ?_
  repeat (first | refine ex_then ?_ | refine ex_block ?_ | refine wp_seq ?_ | refine wp_block ?_ | refine wp_skip ?_)
  refine wp_region_lit ?_
  refine lx_value (v := .int .i64 1) F (wanted_none rfl _) rfl (by rfl) (o_move (F.ev rfl)) fun a F => ?_
  refine lx_value (v := .bool true) F (wanted_none rfl _) rfl (by rfl) (o_bin (u := .int .i64 1) (v := .int .i64 0) (fun ρ hx hy => by simp only [execOp, hx, hy]; simp [go_sem]) (F.ev rfl) rfl) fun a F => ?_
  refine lx_nil ?_
  repeat (first | refine ex_then ?_ | refine ex_block ?_ | refine wp_seq ?_ | refine wp_block ?_ | refine wp_skip ?_)
  refine wp_cond_true (F.ev rfl) ?_
  repeat (first | refine ex_then ?_ | refine ex_block ?_ | refine wp_seq ?_ | refine wp_block ?_ | refine wp_skip ?_)
  refine wp_region_lit ?_
  refine lx_value (v := .int .i64 1) F (wanted_none rfl _) rfl (by rfl) (o_move (F.ev rfl)) fun a F => ?_
  refine lx_value (v := .bool true) F (wanted_none rfl _) rfl (by rfl) (o_bin (u := .int .i64 1) (v := .int .i64 1) (fun ρ hx hy => by simp only [execOp, hx, hy]; simp [go_sem]) (F.ev rfl) rfl) fun a F => ?_
  refine lx_value (v := .bool true) F (wanted_none rfl _) rfl (by rfl) (o_move (F.ev rfl)) fun a F => ?_
  refine lx_pass F (F.want (t := 36) (c := true) rfl rfl rfl (by rfl) rfl) rfl (by rfl) fun a F => ?_
  refine lx_pass F (F.want (t := 36) (c := true) rfl rfl rfl (by rfl) rfl) rfl (by rfl) fun a F => ?_
  refine lx_value (v := .bool true) F (wanted_none rfl _) rfl (by rfl) (o_pick (b := true) (r := .bool true) (F.ev rfl) rfl (F.ev rfl) rfl) fun a F => ?_
  refine lx_value (v := .bool true) F (wanted_none rfl _) rfl (by rfl) (o_move (F.ev rfl)) fun a F => ?_
  refine lx_value (v := .slice none 0 0) F (F.want (t := 40) (c := true) rfl rfl rfl (by rfl) rfl) rfl (by rfl) (o_move (F.ev rfl)) fun a F => ?_
  refine lx_value (v := .int .i64 0) F (F.want (t := 40) (c := true) rfl rfl rfl (by rfl) rfl) rfl (by rfl) (o_len (l := 0) (F.ev rfl)) fun a F => ?_
  refine lx_value (v := .bool true) F (F.want (t := 40) (c := true) rfl rfl rfl (by rfl) rfl) rfl (by rfl) (o_bin (u := .int .i64 0) (v := .int .i64 0) (fun ρ hx hy => by simp only [execOp, hx, hy]; simp [go_sem]) (F.ev rfl) rfl) fun a F => ?_
  refine lx_value (v := .bool true) F (wanted_none rfl _) rfl (by rfl) (o_pick (b := true) (r := .bool true) (F.ev rfl) (F.ev rfl) rfl rfl) fun a F => ?_
  refine lx_value (v := .bool true) F (wanted_none rfl _) rfl (by rfl) (o_assign (F.ev rfl)) fun a F => ?_
  refine lx_nil ?_
  repeat (first | refine ex_then ?_ | refine ex_block ?_ | refine wp_seq ?_ | refine wp_block ?_ | refine wp_skip ?_)
  refine wp_ret ?_
  repeat (first | refine ex_thenR ?_ | refine ex_blockR ?_)
  exact sx_ret F HM (res_tmp F rfl (s := 6) rfl)

set_option maxRecDepth 100000 in
set_option maxHeartbeats 800000 in
theorem pth_b7 (P Q G H n cap m capv : Nat) (pa pb : Option Addr) (xs vs : List Nat) (w0 : World) (hQ : Q < 2 ^ 256) (r : RN w0.heap.size w0 pa n cap xs) (rv : RN w0.heap.size w0 pb m capv vs) (hn : ¬ 20 < n) (hm : ¬ 20 < m) (hb : thrB Q xs vs = true) (hD : ¬ AllD Q xs) : Calls Try.prog 3 #[grp P Q G H, .slice pa n cap, .slice pb m capv] w0 fun e w' => e = .returned (.bool true) ∧ Below w0.heap.size w0 w' := by
  refine sx_enter (args := [grp P Q G H, .slice pa n cap, .slice pb m capv]) Try.func3 rfl Try.ntmps3 (by rfl) fun a F HM => ?_
  repeat (first | refine ex_then ?_ | refine ex_block ?_ | refine wp_seq ?_ | refine wp_block ?_ | refine wp_skip ?_)
  refine wp_region_lit ?_
  refine lx_new F HM (wanted_none rfl _) rfl (by rfl) (o_boxG (F.ev rfl)) fun a w gg F HM => ?_
  refine lx_value (v := .bool false) F (wanted_none rfl _) rfl (by rfl) (o_assign rfl) fun a F => ?_
  refine lx_nil ?_
  repeat (first | refine ex_then ?_ | refine ex_block ?_ | refine wp_seq ?_ | refine wp_block ?_ | refine wp_skip ?_)
  refine wp_region_lit ?_
  refine lx_call F (wanted_none rfl _) rfl (by rfl) (run_callF Try.func7 (by kernel_rfl) (by rfl) .nil _) (alive10_any _) fun a w z F => ?_
  replace HM := HM.on z
  clear z
  refine lx_value (v := .bool false) F (wanted_none rfl _) rfl (by rfl) (o_not (b := true) (r := false) (F.ev rfl) rfl) fun a F => ?_
  refine lx_value (v := .bool false) F (wanted_none rfl _) rfl (by rfl) (o_move (F.ev rfl)) fun a F => ?_
  refine lx_value (v := .slice pa n cap) F (F.want (t := 14) (c := false) rfl rfl rfl (by rfl) rfl) rfl (by rfl) (o_move (F.ev rfl)) fun a F => ?_
  refine lx_value (v := .int .i64 (n : Nat)) F (F.want (t := 14) (c := false) rfl rfl rfl (by rfl) rfl) rfl (by rfl) (o_len (F.ev rfl)) fun a F => ?_
  refine lx_value (v := .bool false) F (F.want (t := 14) (c := false) rfl rfl rfl (by rfl) rfl) rfl (by rfl) (o_bin (u := .int .i64 (n : Nat)) (v := .int .i64 20) (fun ρ hx hy => by simp only [execOp, hx, hy]; simp [go_sem]; omega) (F.ev rfl) rfl) fun a F => ?_
  refine lx_value (v := .bool false) F (wanted_none rfl _) rfl (by rfl) (o_pick (b := false) (r := .bool false) (F.ev rfl) rfl (F.ev rfl) rfl) fun a F => ?_
  refine lx_value (v := .bool false) F (wanted_none rfl _) rfl (by rfl) (o_move (F.ev rfl)) fun a F => ?_
  refine lx_value (v := .slice pb m capv) F (F.want (t := 19) (c := false) rfl rfl rfl (by rfl) rfl) rfl (by rfl) (o_move (F.ev rfl)) fun a F => ?_
  refine lx_value (v := .int .i64 (m : Nat)) F (F.want (t := 19) (c := false) rfl rfl rfl (by rfl) rfl) rfl (by rfl) (o_len (F.ev rfl)) fun a F => ?_
  refine lx_value (v := .bool false) F (F.want (t := 19) (c := false) rfl rfl rfl (by rfl) rfl) rfl (by rfl) (o_bin (u := .int .i64 (m : Nat)) (v := .int .i64 20) (fun ρ hx hy => by simp only [execOp, hx, hy]; simp [go_sem]; omega) (F.ev rfl) rfl) fun a F => ?_
  refine lx_value (v := .bool false) F (wanted_none rfl _) rfl (by rfl) (o_pick (b := false) (r := .bool false) (F.ev rfl) rfl (F.ev rfl) rfl) fun a F => ?_
  refine lx_nil ?_
  repeat (first | refine ex_then ?_ | refine ex_block ?_ | refine wp_seq ?_ | refine wp_block ?_ | refine wp_skip ?_)
  refine wp_cond_false (F.ev rfl) ?_
  repeat (first | refine ex_then ?_ | refine ex_block ?_ | refine wp_seq ?_ | refine wp_block ?_ | refine wp_skip ?_)
  refine wp_region_lit ?_
  refine lx_value (v := grp P Q G H) F (wanted_none rfl _) rfl (by rfl) (o_loadG (F.ev rfl) (HM.get 0 rfl)) fun a F => ?_
  refine lx_value (v := .slice pa n cap) F (wanted_none rfl _) rfl (by rfl) (o_move (F.ev rfl)) fun a F => ?_
  refine lx_value (v := .slice pb m capv) F (wanted_none rfl _) rfl (by rfl) (o_move (F.ev rfl)) fun a F => ?_
  refine lx_call F (wanted_none rfl _) rfl (by rfl) (run_callF Try.func8 (by kernel_rfl) (by rfl) (.cons (F.ev rfl) (.cons (F.ev rfl) (.cons (F.ev rfl) .nil))) _) ((thr_any P Q G H n cap m capv pa pb xs vs _ hQ (r.call HM.bel HM.bel.size) (rv.call HM.bel HM.bel.size) (by omega) hb).mono (fun e w2 h => h.2 hD)) fun a w z F => ?_
  replace HM := HM.on z
  clear z
  refine lx_value (v := .tuple #[.slice none 0 0, .int .i64 7]) F (wanted_none rfl _) rfl (by rfl) (o_move (F.ev rfl)) fun a F => ?_
  refine lx_value (v := .slice none 0 0) F (wanted_none rfl _) rfl (by rfl) (o_extract (F.ev rfl) rfl) fun a F => ?_
  refine lx_value (v := .int .i64 7) F (wanted_none rfl _) rfl (by rfl) (o_extract (F.ev rfl) rfl) fun a F => ?_
  refine lx_value (v := .slice none 0 0) F (wanted_none rfl _) rfl (by rfl) (o_assign (F.ev rfl)) fun a F => ?_
  refine lx_value (v := .int .i64 7) F (wanted_none rfl _) rfl (by rfl) (o_assign (F.ev rfl)) fun a F => ?_
  refine lx_nil ?_
  repeat (first | refine ex_then ?_ | refine ex_block ?_ | refine wp_seq ?_ | refine wp_block ?_ | refine wp_skip ?_)
  refine wp_region_lit ?_
  refine lx_value (v := .int .i64 7) F (wanted_none rfl _) rfl (by rfl) (o_move (F.ev rfl)) fun a F => ?_
  refine lx_value (v := .bool true) F (wanted_none rfl _) rfl (by rfl) (o_bin (u := .int .i64 7) (v := .int .i64 0) (fun ρ hx hy => by simp only [execOp, hx, hy]; simp [go_sem]) (F.ev rfl) rfl) fun a F => ?_
  refine lx_nil ?_
  repeat (first | refine ex_then ?_ | refine ex_block ?_ | refine wp_seq ?_ | refine wp_block ?_ | refine wp_skip ?_)
  refine wp_cond_true (F.ev rfl) ?_
  repeat (first | refine ex_then ?_ | refine ex_block ?_ | refine wp_seq ?_ | refine wp_block ?_ | refine wp_skip ?_)
  refine wp_region_lit ?_
  refine lx_value (v := .int .i64 7) F (wanted_none rfl _) rfl (by rfl) (o_move (F.ev rfl)) fun a F => ?_
  refine lx_value (v := .bool false) F (wanted_none rfl _) rfl (by rfl) (o_bin (u := .int .i64 7) (v := .int .i64 1) (fun ρ hx hy => by simp only [execOp, hx, hy]; simp [go_sem]) (F.ev rfl) rfl) fun a F => ?_
  refine lx_value (v := .bool false) F (wanted_none rfl _) rfl (by rfl) (o_move (F.ev rfl)) fun a F => ?_
  refine lx_value (v := .int .i64 7) F (F.want (t := 36) (c := false) rfl rfl rfl (by rfl) rfl) rfl (by rfl) (o_move (F.ev rfl)) fun a F => ?_
  refine lx_value (v := .bool true) F (F.want (t := 36) (c := false) rfl rfl rfl (by rfl) rfl) rfl (by rfl) (o_bin (u := .int .i64 7) (v := .int .i64 7) (fun ρ hx hy => by simp only [execOp, hx, hy]; simp [go_sem]) (F.ev rfl) rfl) fun a F => ?_
  refine lx_value (v := .bool true) F (wanted_none rfl _) rfl (by rfl) (o_pick (b := false) (r := .bool true) (F.ev rfl) rfl (F.ev rfl) rfl) fun a F => ?_
  refine lx_value (v := .bool true) F (wanted_none rfl _) rfl (by rfl) (o_move (F.ev rfl)) fun a F => ?_
  refine lx_value (v := .slice none 0 0) F (F.want (t := 40) (c := true) rfl rfl rfl (by rfl) rfl) rfl (by rfl) (o_move (F.ev rfl)) fun a F => ?_
  refine lx_value (v := .int .i64 0) F (F.want (t := 40) (c := true) rfl rfl rfl (by rfl) rfl) rfl (by rfl) (o_len (l := 0) (F.ev rfl)) fun a F => ?_
  refine lx_value (v := .bool true) F (F.want (t := 40) (c := true) rfl rfl rfl (by rfl) rfl) rfl (by rfl) (o_bin (u := .int .i64 0) (v := .int .i64 0) (fun ρ hx hy => by simp only [execOp, hx, hy]; simp [go_sem]) (F.ev rfl) rfl) fun a F => ?_
  refine lx_value (v := .bool true) F (wanted_none rfl _) rfl (by rfl) (o_pick (b := true) (r := .bool true) (F.ev rfl) (F.ev rfl) rfl rfl) fun a F => ?_
  refine lx_value (v := .bool true) F (wanted_none rfl _) rfl (by rfl) (o_assign (F.ev rfl)) fun a F => ?_
  refine lx_nil ?_
  repeat (first | refine ex_then ?_ | refine ex_block ?_ | refine wp_seq ?_ | refine wp_block ?_ | refine wp_skip ?_)
  refine wp_ret ?_
  repeat (first | refine ex_thenR ?_ | refine ex_blockR ?_)
  exact sx_ret F HM (res_tmp F rfl (s := 6) rfl)

theorem thr_ex {Q : Nat} {xs vs : List Nat} {n : Nat} {w w' : World} {e : Ending} (h : ∃ (gp : Nat) (ps : List Nat), e = .returned (.tuple #[.slice (some ⟨gp, 0, none⟩) n n, .int .i64 0]) ∧ Below w.heap.size w w' ∧ w.heap.size ≤ gp ∧ (∃ cs, At w' gp 24 cs ∧ Pf cs ps) ∧ TS Q xs vs ps) :
    ∃ u, e = .returned u ∧ Below w.heap.size w w' ∧ ∃ (gp : Nat) (ps : List Nat) (cp : Array Value), u = .tuple #[.slice (some ⟨gp, 0, none⟩) n n, .int .i64 0] ∧ w.heap.size ≤ gp ∧ At w' gp 24 cp ∧ Pf cp ps ∧ TS Q xs vs ps := by
  obtain ⟨gp, ps, he, hb, hg, ⟨cs, hat, hp⟩, ht⟩ := h
  exact ⟨_, he, hb, gp, ps, cs, rfl, hg, hat, hp, ht⟩
set_option maxRecDepth 100000 in
set_option maxHeartbeats 800000 in
theorem pth_ok (P Q G H n cap m capv : Nat) (pa pb : Option Addr) (xs vs : List Nat) (w0 : World) (hQ : Q < 2 ^ 256) (r : RN w0.heap.size w0 pa n cap xs) (rv : RN w0.heap.size w0 pb m capv vs) (hn : ¬ 20 < n) (hm : ¬ 20 < m) (hb : thrB Q xs vs = true) (hD : AllD Q xs) : Calls Try.prog 3 #[grp P Q G H, .slice pa n cap, .slice pb m capv] w0 fun e w' => e = .returned (.bool true) ∧ Below w0.heap.size w0 w' := by
  refine sx_enter (args := [grp P Q G H, .slice pa n cap, .slice pb m capv]) Try.func3 rfl Try.ntmps3 (by rfl) fun a F HM => ?_
  repeat (first | refine ex_then ?_ | refine ex_block ?_ | refine wp_seq ?_ | refine wp_block ?_ | refine wp_skip ?_)
  refine wp_region_lit ?_
  refine lx_new F HM (wanted_none rfl _) rfl (by rfl) (o_boxG (F.ev rfl)) fun a w gg F HM => ?_
  refine lx_value (v := .bool false) F (wanted_none rfl _) rfl (by rfl) (o_assign rfl) fun a F => ?_
  refine lx_nil ?_
  repeat (first | refine ex_then ?_ | refine ex_block ?_ | refine wp_seq ?_ | refine wp_block ?_ | refine wp_skip ?_)
  refine wp_region_lit ?_
  refine lx_call F (wanted_none rfl _) rfl (by rfl) (run_callF Try.func7 (by kernel_rfl) (by rfl) .nil _) (alive10_any _) fun a w z F => ?_
  replace HM := HM.on z
  clear z
  refine lx_value (v := .bool false) F (wanted_none rfl _) rfl (by rfl) (o_not (b := true) (r := false) (F.ev rfl) rfl) fun a F => ?_
  refine lx_value (v := .bool false) F (wanted_none rfl _) rfl (by rfl) (o_move (F.ev rfl)) fun a F => ?_
  refine lx_value (v := .slice pa n cap) F (F.want (t := 14) (c := false) rfl rfl rfl (by rfl) rfl) rfl (by rfl) (o_move (F.ev rfl)) fun a F => ?_
  refine lx_value (v := .int .i64 (n : Nat)) F (F.want (t := 14) (c := false) rfl rfl rfl (by rfl) rfl) rfl (by rfl) (o_len (F.ev rfl)) fun a F => ?_
  refine lx_value (v := .bool false) F (F.want (t := 14) (c := false) rfl rfl rfl (by rfl) rfl) rfl (by rfl) (o_bin (u := .int .i64 (n : Nat)) (v := .int .i64 20) (fun ρ hx hy => by simp only [execOp, hx, hy]; simp [go_sem]; omega) (F.ev rfl) rfl) fun a F => ?_
  refine lx_value (v := .bool false) F (wanted_none rfl _) rfl (by rfl) (o_pick (b := false) (r := .bool false) (F.ev rfl) rfl (F.ev rfl) rfl) fun a F => ?_
  refine lx_value (v := .bool false) F (wanted_none rfl _) rfl (by rfl) (o_move (F.ev rfl)) fun a F => ?_
  refine lx_value (v := .slice pb m capv) F (F.want (t := 19) (c := false) rfl rfl rfl (by rfl) rfl) rfl (by rfl) (o_move (F.ev rfl)) fun a F => ?_
  refine lx_value (v := .int .i64 (m : Nat)) F (F.want (t := 19) (c := false) rfl rfl rfl (by rfl) rfl) rfl (by rfl) (o_len (F.ev rfl)) fun a F => ?_
  refine lx_value (v := .bool false) F (F.want (t := 19) (c := false) rfl rfl rfl (by rfl) rfl) rfl (by rfl) (o_bin (u := .int .i64 (m : Nat)) (v := .int .i64 20) (fun ρ hx hy => by simp only [execOp, hx, hy]; simp [go_sem]; omega) (F.ev rfl) rfl) fun a F => ?_
  refine lx_value (v := .bool false) F (wanted_none rfl _) rfl (by rfl) (o_pick (b := false) (r := .bool false) (F.ev rfl) rfl (F.ev rfl) rfl) fun a F => ?_
  refine lx_nil ?_
  repeat (first | refine ex_then ?_ | refine ex_block ?_ | refine wp_seq ?_ | refine wp_block ?_ | refine wp_skip ?_)
  refine wp_cond_false (F.ev rfl) ?_
  repeat (first | refine ex_then ?_ | refine ex_block ?_ | refine wp_seq ?_ | refine wp_block ?_ | refine wp_skip ?_)
  refine wp_region_lit ?_
  refine lx_value (v := grp P Q G H) F (wanted_none rfl _) rfl (by rfl) (o_loadG (F.ev rfl) (HM.get 0 rfl)) fun a F => ?_
  refine lx_value (v := .slice pa n cap) F (wanted_none rfl _) rfl (by rfl) (o_move (F.ev rfl)) fun a F => ?_
  refine lx_value (v := .slice pb m capv) F (wanted_none rfl _) rfl (by rfl) (o_move (F.ev rfl)) fun a F => ?_
  refine lx_callE F (wanted_none rfl _) rfl (by rfl) (run_callF Try.func8 (by kernel_rfl) (by rfl) (.cons (F.ev rfl) (.cons (F.ev rfl) (.cons (F.ev rfl) .nil))) _) ((thr_any P Q G H n cap m capv pa pb xs vs _ hQ (r.call HM.bel HM.bel.size) (rv.call HM.bel HM.bel.size) (by omega) hb).mono (fun e w2 h => thr_ex (h.1 hD))) fun a w u hu F => ?_
  obtain ⟨z, gp, ps, cp, rfl, hg, hat, hpp, hpl, hpb, hpv⟩ := hu
  have hne := bel_lt HM hg
  have hge := Nat.le_trans (Nat.le_trans HM.le HM.bel.size) hg
  replace HM := (HM.on z).add hge (fun x hx => hne x hx) hat
  clear hne hge hg z hat
  refine lx_value (v := .tuple #[.slice (some ⟨gp, 0, none⟩) n n, .int .i64 0]) F (wanted_none rfl _) rfl (by rfl) (o_move (F.ev rfl)) fun a F => ?_
  refine lx_value (v := .slice (some ⟨gp, 0, none⟩) n n) F (wanted_none rfl _) rfl (by rfl) (o_extract (F.ev rfl) rfl) fun a F => ?_
  refine lx_value (v := .int .i64 0) F (wanted_none rfl _) rfl (by rfl) (o_extract (F.ev rfl) rfl) fun a F => ?_
  refine lx_value (v := .slice (some ⟨gp, 0, none⟩) n n) F (wanted_none rfl _) rfl (by rfl) (o_assign (F.ev rfl)) fun a F => ?_
  refine lx_value (v := .int .i64 0) F (wanted_none rfl _) rfl (by rfl) (o_assign (F.ev rfl)) fun a F => ?_
  refine lx_nil ?_
  repeat (first | refine ex_then ?_ | refine ex_block ?_ | refine wp_seq ?_ | refine wp_block ?_ | refine wp_skip ?_)
  refine wp_region_lit ?_
  refine lx_value (v := .int .i64 0) F (wanted_none rfl _) rfl (by rfl) (o_move (F.ev rfl)) fun a F => ?_
  refine lx_value (v := .bool false) F (wanted_none rfl _) rfl (by rfl) (o_bin (u := .int .i64 0) (v := .int .i64 0) (fun ρ hx hy => by simp only [execOp, hx, hy]; simp [go_sem]) (F.ev rfl) rfl) fun a F => ?_
  refine lx_nil ?_
  repeat (first | refine ex_then ?_ | refine ex_block ?_ | refine wp_seq ?_ | refine wp_block ?_ | refine wp_skip ?_)
  refine wp_cond_false (F.ev rfl) ?_
  have hmn : m = n := by rw [← r.1, ← rv.1]; exact (thrB_iff.1 hb).1
  repeat (first | refine ex_then ?_ | refine ex_block ?_ | refine wp_seq ?_ | refine wp_block ?_ | refine wp_skip ?_)
  refine wp_region_lit ?_
  refine lx_value (v := .slice (some ⟨gp, 0, none⟩) n n) F (wanted_none rfl _) rfl (by rfl) (o_move (F.ev rfl)) fun a F => ?_
  refine lx_value (v := .int .i64 (n : Nat)) F (wanted_none rfl _) rfl (by rfl) (o_len (F.ev rfl)) fun a F => ?_
  refine lx_value (v := .slice pa n cap) F (wanted_none rfl _) rfl (by rfl) (o_move (F.ev rfl)) fun a F => ?_
  refine lx_value (v := .int .i64 (n : Nat)) F (wanted_none rfl _) rfl (by rfl) (o_len (F.ev rfl)) fun a F => ?_
  refine lx_value (v := .bool false) F (wanted_none rfl _) rfl (by rfl) (o_neqI (b := true) (decide_eq_true rfl) (F.ev rfl) (F.ev rfl) rfl) fun a F => ?_
  refine lx_value (v := .bool false) F (wanted_none rfl _) rfl (by rfl) (o_move (F.ev rfl)) fun a F => ?_
  refine lx_value (v := .slice pb m capv) F (F.want (t := 50) (c := false) rfl rfl rfl (by rfl) rfl) rfl (by rfl) (o_move (F.ev rfl)) fun a F => ?_
  refine lx_value (v := .int .i64 (m : Nat)) F (F.want (t := 50) (c := false) rfl rfl rfl (by rfl) rfl) rfl (by rfl) (o_len (F.ev rfl)) fun a F => ?_
  refine lx_value (v := .slice pa n cap) F (F.want (t := 50) (c := false) rfl rfl rfl (by rfl) rfl) rfl (by rfl) (o_move (F.ev rfl)) fun a F => ?_
  refine lx_value (v := .int .i64 (n : Nat)) F (F.want (t := 50) (c := false) rfl rfl rfl (by rfl) rfl) rfl (by rfl) (o_len (F.ev rfl)) fun a F => ?_
  refine lx_value (v := .bool false) F (F.want (t := 50) (c := false) rfl rfl rfl (by rfl) rfl) rfl (by rfl) (o_neqI (b := true) (decide_eq_true (by omega)) (F.ev rfl) (F.ev rfl) rfl) fun a F => ?_
  refine lx_value (v := .bool false) F (wanted_none rfl _) rfl (by rfl) (o_pick (b := false) (r := .bool false) (F.ev rfl) rfl (F.ev rfl) rfl) fun a F => ?_
  refine lx_nil ?_
  repeat (first | refine ex_then ?_ | refine ex_block ?_ | refine wp_seq ?_ | refine wp_block ?_ | refine wp_skip ?_)
  refine wp_cond_false (F.ev rfl) ?_
  repeat (first | refine ex_then ?_ | refine ex_block ?_ | refine wp_seq ?_ | refine wp_block ?_ | refine wp_skip ?_)
  refine wp_region_lit ?_
  refine lx_value (v := .int .i64 0) F (wanted_none rfl _) rfl (by rfl) (o_assign rfl) fun a F => ?_
  refine lx_nil ?_
  repeat (first | refine ex_then ?_ | refine ex_block ?_ | refine wp_seq ?_ | refine wp_block ?_ | refine wp_skip ?_)
  refine wp_loop (fun a w => ∃ i : Nat, i ≤ n ∧ Fr a 83 [(9, .int .i64 (i : Nat)), (1, .slice pa n cap), (2, .slice pb m capv), (7, .slice (some ⟨gp, 0, none⟩) n n), (3, .pointer (some ⟨gg, 0, none⟩))] [] ∧ Mem w0.heap.size w0 w [(gp, 24, cp), (gg, 26, gcs P Q G H)]) (fun a _ => n - (intOf (a.tmps.getD 9 undef)).toNat) ⟨0, Nat.zero_le _, F.sub [9, 1, 2, 7, 3], HM⟩ ?_
  clear F HM
  rintro aS wS ⟨i, hi, FS, HM⟩
  have F := FS
  by_cases hlt : i < n
  · repeat (first | refine ex_then ?_ | refine ex_block ?_ | refine wp_seq ?_ | refine wp_block ?_ | refine wp_skip ?_)
    refine wp_region_lit ?_
    refine lx_value (v := .int .i64 (i : Nat)) F (wanted_none rfl _) rfl (by rfl) (o_move (F.ev rfl)) fun a F => ?_
    refine lx_value (v := .slice pa n cap) F (wanted_none rfl _) rfl (by rfl) (o_move (F.ev rfl)) fun a F => ?_
    refine lx_value (v := .int .i64 (n : Nat)) F (wanted_none rfl _) rfl (by rfl) (o_len (F.ev rfl)) fun a F => ?_
    refine lx_value (v := .bool true) F (wanted_none rfl _) rfl (by rfl) (o_bin (u := .int .i64 (i : Nat)) (v := .int .i64 (n : Nat)) (fun ρ hx hy => by simp only [execOp, hx, hy]; simp [go_sem]; omega) (F.ev rfl) (F.ev rfl)) fun a F => ?_
    refine lx_nil ?_
    repeat (first | refine ex_then ?_ | refine ex_block ?_ | refine wp_seq ?_ | refine wp_block ?_ | refine wp_skip ?_)
    refine wp_cond_true (F.ev rfl) ?_
    have hwr := r.room hlt
    have hltm : i < m := by omega
    obtain ⟨h1, h2, h3, h4, h5, h6⟩ := thrB_iff.1 hb
    obtain ⟨gl, ol, hpa, hil, hxb, hc⟩ := r.get hlt
    obtain ⟨gv, ov, hpb2, hiv, hvb, hcv⟩ := rv.get hltm
    have hxQ := h6 _ (List.getElem_mem hil)
    have hvQ := h2 _ (List.getElem_mem hiv)
    have hvv := hpv i _ _ (List.getElem?_eq_getElem hil) (List.getElem?_eq_getElem hiv)
    generalize xs[i] = x at *
    generalize vs[i] = v at *
    have hv : sofN Q (evZ (zs ps) (x : Int)) = v := Cg.eq (sof_lt h3 _) hvQ ((sof_cg h3 _).trans hvv)
    have hat : atB Q x ps = true := atB_iff.2 ⟨h3, hxQ, hpb⟩
    have hpn : ps.length = n := hpl.trans r.1
    have hval : ∀ u, Below wS.heap.size wS u → Calls Try.prog 9 #[grp P Q G H, .slice (some ⟨gp, 0, none⟩) n n, num x] u fun e w2 => e = .returned (.tuple #[num v, .int .i64 0]) ∧ Below u.heap.size u w2 := fun u z => by
      have := at_yes P Q G H x n n _ ps u hQ hat (hpp.rsA ((HM.on z).get 0 rfl) hpn (Nat.le_refl _) (by omega) (fun c hc => Nat.lt_trans (hpb c hc) hQ))
      rwa [hv] at this
    repeat (first | refine ex_then ?_ | refine ex_block ?_ | refine wp_seq ?_ | refine wp_block ?_ | refine wp_skip ?_)
    refine sx_enterR (S := fun w' => Mem _ _ w' [(gp, 24, cp), (gg, 26, gcs P Q G H)]) HM (fun _ h => h) (by kernel_rfl) fun w HM HBW => ?_
    have HBX := HBW
    clear HBW
    try simp only [List.append_eq, List.cons_append, List.nil_append]
    refine sx_batch [⟨0, 64, [], .val (grp P Q G H), true⟩,
      ⟨1, 65, [0], .val (.slice (some ⟨gp, 0, none⟩) n n), true⟩,
      ⟨2, 66, [1], .val (.slice pa n cap), true⟩,
      ⟨3, 67, [2], .val (.int .i64 (i : Nat)), true⟩,
      ⟨4, 68, [2, 3], .val (.pointer (some ⟨gl, ol + i * 4, none⟩)), true⟩,
      ⟨5, 69, [4], .val (num x), true⟩,
      ⟨10, 10, [], .cell 24 (ncs 0), false⟩,
      ⟨6, 70, [0, 1, 5], .val (.tuple #[num v, .int .i64 0]), false⟩,
      ⟨7, 63, [7], .val (.tuple #[num v, .int .i64 0]), true⟩,
      ⟨8, 71, [8], .val (num v), true⟩,
      ⟨9, 72, [8, 9], .val (.int .i64 0), true⟩] 2 _ F HM (fun _ h => h.subl (by first | exact List.Sublist.refl _ | (repeat (first | exact List.Sublist.refl _ | refine List.Sublist.cons_cons _ ?_ | refine List.Sublist.cons _ ?_)))) (by kernel_rfl) (by rfl) ?_ ?_ ?_ ?_ ?_ ?_ ?_
    · kernel_rfl
    · exact of_decide_eq_true (by kernel_rfl)
    · exact all_cons ⟨_, by rfl, by rfl⟩ (all_cons ⟨_, by rfl, by rfl⟩ (all_cons ⟨_, by rfl, by rfl⟩ (all_cons ⟨_, by rfl, by rfl⟩ (all_cons ⟨_, by rfl, by rfl⟩ (all_cons ⟨_, by rfl, by rfl⟩ (all_cons ⟨_, by rfl, by rfl⟩ (all_cons ⟨_, by rfl, by rfl⟩ (all_cons ⟨_, by rfl, by rfl⟩ (all_cons ⟨_, by rfl, by rfl⟩ (all_cons ⟨_, by rfl, by rfl⟩ (all_nil)))))))))))
    · kernel_rfl
    · refine all_cons ?_ (all_cons ?_ (all_cons ?_ (all_cons ?_ (all_cons ?_ (all_cons ?_ (all_cons ?_ (all_cons ?_ (all_cons ?_ (all_cons ?_ (all_cons ?_ (all_nil)))))))))))
      · exact coreS _ _ _ _ _ _ _ (by rfl) (by rfl) (wants_none) (fun ρ w kn hs => o_loadG (kn _ _ (F.old (by rfl) rfl)) (hs.get 1 rfl))
      · exact coreS _ _ _ _ _ _ _ (by rfl) (by rfl) (wants_none) (fun ρ w kn hs => o_move (kn _ _ (F.old (by rfl) rfl)))
      · exact coreS _ _ _ _ _ _ _ (by rfl) (by rfl) (wants_none) (fun ρ w kn hs => o_move (kn _ _ (F.old (by rfl) rfl)))
      · exact coreS _ _ _ _ _ _ _ (by rfl) (by rfl) (wants_none) (fun ρ w kn hs => o_move (kn _ _ (F.old (by rfl) rfl)))
      · exact coreS _ _ _ _ _ _ _ (by rfl) (by rfl) (wants_none) (fun ρ w kn hs => o_idxN hlt (by rw [← hpa]; exact (kn _ _ (known_core 2 66 _ _ (of_decide_eq_true (by rfl)) (by rfl) (by rfl) (by rfl)))) (kn _ _ (known_core 3 67 _ _ (of_decide_eq_true (by rfl)) (by rfl) (by rfl) (by rfl))))
      · exact coreS _ _ _ _ _ _ _ (by rfl) (by rfl) (wants_none) (fun ρ w kn hs => o_loadC (kn _ _ (known_core 4 68 _ _ (of_decide_eq_true (by rfl)) (by rfl) (by rfl) (by rfl))) (hc _ hs.bel))
      · exact core_pureAs _ (by rfl)
      · exact core_pureAs _ (by rfl)
      · exact coreS _ _ _ _ _ _ _ (by rfl) (by rfl) (wants_none) (fun ρ w kn hs => o_move (kn _ _ (known_core 7 70 _ _ (of_decide_eq_true (by rfl)) (by rfl) (by rfl) (by rfl))))
      · exact coreS _ _ _ _ _ _ _ (by rfl) (by rfl) (wants_none) (fun ρ w kn hs => o_extract (kn _ _ (known_core 8 63 _ _ (of_decide_eq_true (by rfl)) (by rfl) (by rfl) (by rfl))) rfl)
      · exact coreS _ _ _ _ _ _ _ (by rfl) (by rfl) (wants_none) (fun ρ w kn hs => o_extract (kn _ _ (known_core 8 63 _ _ (of_decide_eq_true (by rfl)) (by rfl) (by rfl) (by rfl))) rfl)
    · refine all_cons ?_ (all_cons ?_ (all_cons ?_ (all_cons ?_ (all_cons ?_ (all_cons ?_ (all_cons ?_ (all_cons ?_ (all_cons ?_ (all_cons ?_ (all_cons ?_ (all_nil)))))))))))
      · exact core_stepAs _ (by rfl)
      · exact core_stepAs _ (by rfl)
      · exact core_stepAs _ (by rfl)
      · exact core_stepAs _ (by rfl)
      · exact core_stepAs _ (by rfl)
      · exact core_stepAs _ (by rfl)
      · exact fun _ => core_new _ _ _ _ _ _ _ _ (by rfl) (by rfl) (Nat.le_refl _) (fun ρ w => o_allocN)
      · exact fun _ => coreG_callB _ 9 _ _ [.tmp 64, .tmp 65, .tmp 69] _ _ _ _ _ _ _ (by rfl) Try.func9 (by kernel_rfl) (by rfl) (by rfl) (wants_none) (.cons (known_core 0 64 _ _ (of_decide_eq_true (by rfl)) (by rfl) (by rfl) (by rfl)) (.cons (known_core 1 65 _ _ (of_decide_eq_true (by rfl)) (by rfl) (by rfl) (by rfl)) (.cons (known_core 5 69 _ _ (of_decide_eq_true (by rfl)) (by rfl) (by rfl) (by rfl)) .nil))) (fun u hb => (fun u (z : Below w.heap.size w u) => hval u (bel_tr HBX z)) u hb)
      · exact core_stepAs _ (by rfl)
      · exact core_stepAs _ (by rfl)
      · exact core_stepAs _ (by rfl)
    intro gs rs a w hgs hrs F HM HBW HR HO HT
    obtain rfl := nl0 rs hrs
    obtain ⟨gb, rfl⟩ := nl1 gs hgs
    have HBX := HBW
    clear hrs hgs HR HBW HO
    clear HT
    refine sx_store (i := 11) HM (by kernel_rfl) (by rfl) rfl rfl (k := 0) rfl (o_storeN (F.ev rfl) (F.ev rfl) (HM.get 0 rfl)) (M2 := [(gb, 24, ncs v), (gp, 24, cp), (gg, 26, gcs P Q G H)]) (rfl) (fun _ h => h.subl (by first | exact List.Sublist.refl _ | (repeat (first | exact List.Sublist.refl _ | refine List.Sublist.cons_cons _ ?_ | refine List.Sublist.cons _ ?_)))) fun w HM => ?_
    refine sx_assign (i := 12) (d := 11) (x := .tmp 72) (v := .int .i64 0) F ((HM.subl (by first | exact List.Sublist.refl _ | (repeat (first | exact List.Sublist.refl _ | refine List.Sublist.cons_cons _ ?_ | refine List.Sublist.cons _ ?_))))) (by kernel_rfl) (by rfl) (by rfl) (F.ev rfl) fun a F => ?_
    refine sx_done (by kernel_rfl) ?_ _
    repeat (first | refine ex_then ?_ | refine ex_block ?_ | refine wp_seq ?_ | refine wp_block ?_ | refine wp_skip ?_)
    refine sx_enterR (S := fun w' => Mem _ _ w' [(gb, 24, ncs v), (gp, 24, cp), (gg, 26, gcs P Q G H)]) HM (fun _ h => h) (by kernel_rfl) fun w HM HBW => ?_
    clear HBW
    try simp only [List.append_eq, List.cons_append, List.nil_append]
    refine sx_batch [⟨0, 73, [], .val (.int .i64 0), true⟩,
      ⟨1, 74, [0], .val (.bool false), true⟩,
      ⟨2, 75, [1], .val (.bool false), true⟩,
      ⟨3, 76, [2], .val (num v), true⟩,
      ⟨4, 77, [2, 3], .val (.slice pb m capv), true⟩,
      ⟨5, 78, [2, 4], .val (.int .i64 (i : Nat)), true⟩,
      ⟨6, 79, [2, 4, 5], .val (.pointer (some ⟨gv, ov + i * 4, none⟩)), true⟩,
      ⟨7, 80, [2, 6], .val (num v), true⟩,
      ⟨8, 81, [2, 3, 7], .val (.bool false), true⟩,
      ⟨9, 82, [2, 8], .val (.bool false), true⟩] 0 _ F HM (fun _ h => h.subl (by first | exact List.Sublist.refl _ | (repeat (first | exact List.Sublist.refl _ | refine List.Sublist.cons_cons _ ?_ | refine List.Sublist.cons _ ?_)))) (by kernel_rfl) (by rfl) ?_ ?_ ?_ ?_ ?_ ?_ ?_
    · kernel_rfl
    · exact of_decide_eq_true (by kernel_rfl)
    · exact all_cons ⟨_, by rfl, by rfl⟩ (all_cons ⟨_, by rfl, by rfl⟩ (all_cons ⟨_, by rfl, by rfl⟩ (all_cons ⟨_, by rfl, by rfl⟩ (all_cons ⟨_, by rfl, by rfl⟩ (all_cons ⟨_, by rfl, by rfl⟩ (all_cons ⟨_, by rfl, by rfl⟩ (all_cons ⟨_, by rfl, by rfl⟩ (all_cons ⟨_, by rfl, by rfl⟩ (all_cons ⟨_, by rfl, by rfl⟩ (all_nil))))))))))
    · kernel_rfl
    · refine all_cons ?_ (all_cons ?_ (all_cons ?_ (all_cons ?_ (all_cons ?_ (all_cons ?_ (all_cons ?_ (all_cons ?_ (all_cons ?_ (all_cons ?_ (all_nil))))))))))
      · exact coreS _ _ _ _ _ _ _ (by rfl) (by rfl) (wants_none) (fun ρ w kn hs => o_move (kn _ _ (F.old (by rfl) rfl)))
      · exact coreS _ _ _ _ _ _ _ (by rfl) (by rfl) (wants_none) (fun ρ w kn hs => o_bin (u := .int .i64 0) (v := .int .i64 0) (fun ρ hx hy => by simp only [execOp, hx, hy]; simp [go_sem]) (kn _ _ (known_core 0 73 _ _ (of_decide_eq_true (by rfl)) (by rfl) (by rfl) (by rfl))) (kn _ _ (known_const _)))
      · exact coreS _ _ _ _ _ _ _ (by rfl) (by rfl) (wants_none) (fun ρ w kn hs => o_move (kn _ _ (known_core 1 74 _ _ (of_decide_eq_true (by rfl)) (by rfl) (by rfl) (by rfl))))
      · exact coreS _ _ _ _ _ _ _ (by rfl) (by rfl) (wants_core 2 75 2 _ _ _ (by rfl) (by rfl) (by rfl) (known_core 2 75 _ _ (of_decide_eq_true (by rfl)) (by rfl) (by rfl) (by rfl)) _ (by rfl)) (fun ρ w kn hs => o_loadN (kn _ _ (F.old (by rfl) rfl)) (hs.get 0 rfl))
      · exact coreS _ _ _ _ _ _ _ (by rfl) (by rfl) (wants_core 2 75 2 _ _ _ (by rfl) (by rfl) (by rfl) (known_core 2 75 _ _ (of_decide_eq_true (by rfl)) (by rfl) (by rfl) (by rfl)) _ (by rfl)) (fun ρ w kn hs => o_move (kn _ _ (F.old (by rfl) rfl)))
      · exact coreS _ _ _ _ _ _ _ (by rfl) (by rfl) (wants_core 2 75 2 _ _ _ (by rfl) (by rfl) (by rfl) (known_core 2 75 _ _ (of_decide_eq_true (by rfl)) (by rfl) (by rfl) (by rfl)) _ (by rfl)) (fun ρ w kn hs => o_move (kn _ _ (F.old (by rfl) rfl)))
      · exact coreS _ _ _ _ _ _ _ (by rfl) (by rfl) (wants_core 2 75 2 _ _ _ (by rfl) (by rfl) (by rfl) (known_core 2 75 _ _ (of_decide_eq_true (by rfl)) (by rfl) (by rfl) (by rfl)) _ (by rfl)) (fun ρ w kn hs => o_idxN hltm (by rw [← hpb2]; exact (kn _ _ (known_core 4 77 _ _ (of_decide_eq_true (by rfl)) (by rfl) (by rfl) (by rfl)))) (kn _ _ (known_core 5 78 _ _ (of_decide_eq_true (by rfl)) (by rfl) (by rfl) (by rfl))))
      · exact coreS _ _ _ _ _ _ _ (by rfl) (by rfl) (wants_core 2 75 2 _ _ _ (by rfl) (by rfl) (by rfl) (known_core 2 75 _ _ (of_decide_eq_true (by rfl)) (by rfl) (by rfl) (by rfl)) _ (by rfl)) (fun ρ w kn hs => o_loadC (kn _ _ (known_core 6 79 _ _ (of_decide_eq_true (by rfl)) (by rfl) (by rfl) (by rfl))) (hcv _ hs.bel))
      · exact coreS _ _ _ _ _ _ _ (by rfl) (by rfl) (wants_core 2 75 2 _ _ _ (by rfl) (by rfl) (by rfl) (known_core 2 75 _ _ (of_decide_eq_true (by rfl)) (by rfl) (by rfl) (by rfl)) _ (by rfl)) (fun ρ w kn hs => o_neqS (kn _ _ (known_core 3 76 _ _ (of_decide_eq_true (by rfl)) (by rfl) (by rfl) (by rfl))) (kn _ _ (known_core 7 80 _ _ (of_decide_eq_true (by rfl)) (by rfl) (by rfl) (by rfl))))
      · exact coreS _ _ _ _ _ _ _ (by rfl) (by rfl) (wants_none) (fun ρ w kn hs => o_pick (b := false) (r := .bool false) (kn _ _ (known_core 2 75 _ _ (of_decide_eq_true (by rfl)) (by rfl) (by rfl) (by rfl))) (kn _ _ (known_const _)) (kn _ _ (known_core 8 81 _ _ (of_decide_eq_true (by rfl)) (by rfl) (by rfl) (by rfl))) rfl)
    · refine all_cons ?_ (all_cons ?_ (all_cons ?_ (all_cons ?_ (all_cons ?_ (all_cons ?_ (all_cons ?_ (all_cons ?_ (all_cons ?_ (all_cons ?_ (all_nil))))))))))
      · exact core_stepAs _ (by rfl)
      · exact core_stepAs _ (by rfl)
      · exact core_stepAs _ (by rfl)
      · exact core_stepAs _ (by rfl)
      · exact core_stepAs _ (by rfl)
      · exact core_stepAs _ (by rfl)
      · exact core_stepAs _ (by rfl)
      · exact core_stepAs _ (by rfl)
      · exact core_stepAs _ (by rfl)
      · exact core_stepAs _ (by rfl)
    intro gs rs a w hgs hrs F HM HBW HR HO HT
    obtain rfl := nl0 rs hrs
    obtain rfl := nl0 gs hgs
    clear hrs hgs HR HBW HO
    clear HT
    refine sx_done (by kernel_rfl) ?_ _
    repeat (first | refine ex_then ?_ | refine ex_block ?_ | refine wp_seq ?_ | refine wp_block ?_ | refine wp_skip ?_)
    refine wp_cond_false (F.ev rfl) ?_
    repeat (first | refine ex_then ?_ | refine ex_block ?_ | refine wp_seq ?_ | refine wp_block ?_ | refine wp_skip ?_)
    refine wp_region_lit ?_
    refine lx_value (v := .int .i64 (i : Nat)) F (wanted_none rfl _) rfl (by rfl) (o_move (F.ev rfl)) fun a F => ?_
    refine lx_value (v := .int .i64 ((i + 1 : Nat) : Int)) F (wanted_none rfl _) rfl (by rfl) (o_bin (u := .int .i64 (i : Nat)) (v := .int .i64 1) (fun ρ hx hy => by simp only [execOp, hx, hy]; simp [go_sem, hwr]) (F.ev rfl) rfl) fun a F => ?_
    refine lx_value (v := .int .i64 ((i + 1 : Nat) : Int)) F (wanted_none rfl _) rfl (by rfl) (o_assign (F.ev rfl)) fun a F => ?_
    refine lx_nil ?_
    replace HM := HM.erase 0 (M2 := [(gp, 24, cp), (gg, 26, gcs P Q G H)]) rfl
    refine ex_then ?_
    refine ⟨⟨i + 1, by omega, F.sub [9, 1, 2, 7, 3], HM⟩, ?_⟩
    · show n - (intOf (a.tmps.getD 9 undef)).toNat < n - (intOf (aS.tmps.getD 9 undef)).toNat
      rw [F.get 9 _ rfl, FS.get 9 _ rfl]
      show n - ((i + 1 : Nat) : Int).toNat < n - ((i : Nat) : Int).toNat
      omega
  · repeat (first | refine ex_then ?_ | refine ex_block ?_ | refine wp_seq ?_ | refine wp_block ?_ | refine wp_skip ?_)
    refine wp_region_lit ?_
    refine lx_value (v := .int .i64 (i : Nat)) F (wanted_none rfl _) rfl (by rfl) (o_move (F.ev rfl)) fun a F => ?_
    refine lx_value (v := .slice pa n cap) F (wanted_none rfl _) rfl (by rfl) (o_move (F.ev rfl)) fun a F => ?_
    refine lx_value (v := .int .i64 (n : Nat)) F (wanted_none rfl _) rfl (by rfl) (o_len (F.ev rfl)) fun a F => ?_
    refine lx_value (v := .bool false) F (wanted_none rfl _) rfl (by rfl) (o_bin (u := .int .i64 (i : Nat)) (v := .int .i64 (n : Nat)) (fun ρ hx hy => by simp only [execOp, hx, hy]; simp [go_sem]; omega) (F.ev rfl) (F.ev rfl)) fun a F => ?_
    refine lx_nil ?_
    repeat (first | refine ex_then ?_ | refine ex_block ?_ | refine wp_seq ?_ | refine wp_block ?_ | refine wp_skip ?_)
    refine wp_cond_false (F.ev rfl) ?_
    repeat (first | refine ex_then ?_ | refine ex_block ?_ | refine wp_seq ?_ | refine wp_block ?_ | refine wp_skip ?_)
    refine wp_exit ?_
    repeat (first | refine ex_thenE ?_ | refine ex_blockE ?_)
    repeat (first | refine ex_then ?_ | refine ex_block ?_ | refine wp_seq ?_ | refine wp_block ?_ | refine wp_skip ?_)
    refine wp_region_lit ?_
    refine lx_value (v := .bool true) F (wanted_none rfl _) rfl (by rfl) (o_assign rfl) fun a F => ?_
    refine lx_nil ?_
    repeat (first | refine ex_then ?_ | refine ex_block ?_ | refine wp_seq ?_ | refine wp_block ?_ | refine wp_skip ?_)
    refine wp_ret ?_
    repeat (first | refine ex_thenR ?_ | refine ex_blockR ?_)
    exact sx_ret F HM (res_tmp F rfl (s := 6) rfl)

theorem pth_walk (P Q G H n cap m capv : Nat) (pa pb : Option Addr) (xs vs : List Nat) (w0 : World) (hQ : Q < 2 ^ 256) (r : RN w0.heap.size w0 pa n cap xs) (rv : RN w0.heap.size w0 pb m capv vs) : Calls Try.prog 3 #[grp P Q G H, .slice pa n cap, .slice pb m capv] w0 fun e w' => e = .returned (.bool true) ∧ Below w0.heap.size w0 w' := by
  by_cases hn : 20 < n
  · exact pth_l1 P Q G H n cap m capv pa pb xs vs w0 hQ r rv hn
  by_cases hm : 20 < m
  · exact pth_l2 P Q G H n cap m capv pa pb xs vs w0 hQ r rv hn hm
  by_cases hb : thrB Q xs vs = true
  · by_cases hD : AllD Q xs
    · exact pth_ok P Q G H n cap m capv pa pb xs vs w0 hQ r rv hn hm hb hD
    · exact pth_b7 P Q G H n cap m capv pa pb xs vs w0 hQ r rv hn hm hb hD
  · exact pth_b1 P Q G H n cap m capv pa pb xs vs w0 hQ r rv hn hm (Bool.eq_false_iff.2 hb)
end Go.Proofs.Ytfjploahkodekaa
