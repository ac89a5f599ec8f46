/-
  PrimesTurned: walked.
-/
import Derived.Deep.Cut
import Derived.Test.YtodlpmepoakdlaaVSmall
import Derived.Test.YtodlpmepoakdlaaVTu3
namespace Go.Proofs.Ytodlpmepoakdlaa
set_option maxRecDepth 100000
open Go.RowKit
set_option linter.unusedSimpArgs false
set_option linter.unusedVariables false
attribute [local go_sem ↓] Go.wp_at_zero Go.wp_at_succ

open Pr (Rsn)
set_option maxRecDepth 100000 in
set_option maxHeartbeats 8000000 in
theorem turned_1 (N Y l cap c : Nat) (pa : Option Addr) (z : Int) (w0 : World) (cz : ∀ u, Below w0.heap.size w0 u → Calls Try.prog 10 #[rv N Y (.slice pa l cap)] u fun e w2 => e = .returned (.int .i64 z) ∧ Below u.heap.size u w2) (hz : 20000 < z) : Calls Try.prog 3 #[rv N Y ((.slice pa l cap)), .int .u8 (c : Nat)] w0 fun e w' => e = .returned (.bool true) ∧ Below w0.heap.size w0 w' := by
  refine sx_enter (args := [rv N Y ((.slice pa l cap)), .int .u8 (c : Nat)]) Try.func3 rfl Try.ntmps3 (by rfl) fun a F HM => ?_
  repeat (first | refine ex_then ?_ | refine ex_block ?_ | refine wp_seq ?_ | refine wp_block ?_ | refine wp_skip ?_)
  refine wp_region_lit ?_
  refine lx_new F HM (wanted_none rfl _) rfl (by rfl) (o_boxR (F.ev rfl) rfl) fun a w gr F HM => ?_
  refine lx_value (v := .bool false) F (wanted_none rfl _) rfl (by rfl) (o_assign rfl) fun a F => ?_
  refine lx_nil ?_
  repeat (first | refine ex_then ?_ | refine ex_block ?_ | refine wp_seq ?_ | refine wp_block ?_ | refine wp_skip ?_)
  refine wp_region_lit ?_
  refine lx_call F (wanted_none rfl _) rfl (by rfl) (run_callF Try.func9 (by kernel_rfl) (by rfl) .nil _) (alive7_any _) fun a w z F => ?_
  replace HM := HM.on z
  clear z
  refine lx_value (v := .bool false) F (wanted_none rfl _) rfl (by rfl) (o_not (b := true) (r := false) (F.ev rfl) rfl) fun a F => ?_
  refine lx_value (v := .bool false) F (wanted_none rfl _) rfl (by rfl) (o_move (F.ev rfl)) fun a F => ?_
  refine lx_value (v := rv N Y ((.slice pa l cap))) F (F.want (t := 13) (c := false) rfl rfl rfl (by rfl) rfl) rfl (by rfl) (o_loadR (F.ev rfl) (HM.get 0 rfl)) fun a F => ?_
  refine lx_call F (F.want (t := 13) (c := false) rfl rfl rfl (by rfl) rfl) rfl (by rfl) (run_callF Try.func10 (by kernel_rfl) (by rfl) (.cons (F.ev rfl) .nil) _) (cz _ HM.bel) fun a w z F => ?_
  replace HM := HM.on z
  clear z
  refine lx_value (v := .bool true) F (F.want (t := 13) (c := false) rfl rfl rfl (by rfl) rfl) rfl (by rfl) (o_bin (u := .int .i64 z) (v := .int .i64 20000) (fun ρ hx hy => by simp only [execOp, hx, hy]; simp [go_sem]; omega) (F.ev rfl) rfl) fun a F => ?_
  refine lx_value (v := .bool true) F (wanted_none rfl _) rfl (by rfl) (o_pick (b := false) (r := .bool true) (F.ev rfl) rfl (F.ev rfl) rfl) fun a F => ?_
  refine lx_value (v := .bool true) F (wanted_none rfl _) rfl (by rfl) (o_move (F.ev rfl)) fun a F => ?_
  refine lx_pass F (F.want (t := 18) (c := true) rfl rfl rfl (by rfl) rfl) rfl (by rfl) fun a F => ?_
  refine lx_pass F (F.want (t := 18) (c := true) rfl rfl rfl (by rfl) rfl) rfl (by rfl) fun a F => ?_
  refine lx_pass F (F.want (t := 18) (c := true) rfl rfl rfl (by rfl) rfl) rfl (by rfl) fun a F => ?_
  refine lx_value (v := .bool true) F (wanted_none rfl _) rfl (by rfl) (o_pick (b := true) (r := .bool true) (F.ev rfl) rfl (F.ev rfl) rfl) fun a F => ?_
  refine lx_value (v := .bool true) F (wanted_none rfl _) rfl (by rfl) (o_move (F.ev rfl)) fun a F => ?_
  refine lx_pass F (F.want (t := 23) (c := true) rfl rfl rfl (by rfl) rfl) rfl (by rfl) fun a F => ?_
  refine lx_pass F (F.want (t := 23) (c := true) rfl rfl rfl (by rfl) rfl) rfl (by rfl) fun a F => ?_
  refine lx_pass F (F.want (t := 23) (c := true) rfl rfl rfl (by rfl) rfl) rfl (by rfl) fun a F => ?_
  refine lx_pass F (F.want (t := 23) (c := true) rfl rfl rfl (by rfl) rfl) rfl (by rfl) fun a F => ?_
  refine lx_value (v := .bool true) F (wanted_none rfl _) rfl (by rfl) (o_pick (b := true) (r := .bool true) (F.ev rfl) rfl (F.ev rfl) rfl) fun a F => ?_
  refine lx_nil ?_
  repeat (first | refine ex_then ?_ | refine ex_block ?_ | refine wp_seq ?_ | refine wp_block ?_ | refine wp_skip ?_)
  refine wp_cond_true (F.ev rfl) ?_
  repeat (first | refine ex_then ?_ | refine ex_block ?_ | refine wp_seq ?_ | refine wp_block ?_ | refine wp_skip ?_)
  refine wp_region_lit ?_
  refine lx_call F (wanted_none rfl _) rfl (by rfl) (run_callF Try.func9 (by kernel_rfl) (by rfl) .nil _) (alive7_any _) fun a w z F => ?_
  replace HM := HM.on z
  clear z
  refine lx_value (v := .bool true) F (wanted_none rfl _) rfl (by rfl) (o_assign (F.ev rfl)) fun a F => ?_
  refine lx_nil ?_
  repeat (first | refine ex_then ?_ | refine ex_block ?_ | refine wp_seq ?_ | refine wp_block ?_ | refine wp_skip ?_)
  refine wp_ret ?_
  repeat (first | refine ex_thenR ?_ | refine ex_blockR ?_)
  exact sx_ret F HM (res_tmp F rfl (s := 4) rfl)

set_option maxRecDepth 100000 in
set_option maxHeartbeats 8000000 in
theorem turned_2 (N Y l cap c : Nat) (pa : Option Addr) (z : Int) (w0 : World) (cz : ∀ u, Below w0.heap.size w0 u → Calls Try.prog 10 #[rv N Y (.slice pa l cap)] u fun e w2 => e = .returned (.int .i64 z) ∧ Below u.heap.size u w2) (cc : ∀ u, Below w0.heap.size w0 u → Calls Try.prog 11 #[rv N Y (.slice pa l cap)] u fun e w2 => e = .returned (.bool false) ∧ Below u.heap.size u w2) (hz : ¬ 20000 < z) : Calls Try.prog 3 #[rv N Y ((.slice pa l cap)), .int .u8 (c : Nat)] w0 fun e w' => e = .returned (.bool true) ∧ Below w0.heap.size w0 w' := by
  refine sx_enter (args := [rv N Y ((.slice pa l cap)), .int .u8 (c : Nat)]) Try.func3 rfl Try.ntmps3 (by rfl) fun a F HM => ?_
  repeat (first | refine ex_then ?_ | refine ex_block ?_ | refine wp_seq ?_ | refine wp_block ?_ | refine wp_skip ?_)
  refine wp_region_lit ?_
  refine lx_new F HM (wanted_none rfl _) rfl (by rfl) (o_boxR (F.ev rfl) rfl) fun a w gr F HM => ?_
  refine lx_value (v := .bool false) F (wanted_none rfl _) rfl (by rfl) (o_assign rfl) fun a F => ?_
  refine lx_nil ?_
  repeat (first | refine ex_then ?_ | refine ex_block ?_ | refine wp_seq ?_ | refine wp_block ?_ | refine wp_skip ?_)
  refine wp_region_lit ?_
  refine lx_call F (wanted_none rfl _) rfl (by rfl) (run_callF Try.func9 (by kernel_rfl) (by rfl) .nil _) (alive7_any _) fun a w z F => ?_
  replace HM := HM.on z
  clear z
  refine lx_value (v := .bool false) F (wanted_none rfl _) rfl (by rfl) (o_not (b := true) (r := false) (F.ev rfl) rfl) fun a F => ?_
  refine lx_value (v := .bool false) F (wanted_none rfl _) rfl (by rfl) (o_move (F.ev rfl)) fun a F => ?_
  refine lx_value (v := rv N Y ((.slice pa l cap))) F (F.want (t := 13) (c := false) rfl rfl rfl (by rfl) rfl) rfl (by rfl) (o_loadR (F.ev rfl) (HM.get 0 rfl)) fun a F => ?_
  refine lx_call F (F.want (t := 13) (c := false) rfl rfl rfl (by rfl) rfl) rfl (by rfl) (run_callF Try.func10 (by kernel_rfl) (by rfl) (.cons (F.ev rfl) .nil) _) (cz _ HM.bel) fun a w z F => ?_
  replace HM := HM.on z
  clear z
  refine lx_value (v := .bool false) F (F.want (t := 13) (c := false) rfl rfl rfl (by rfl) rfl) rfl (by rfl) (o_bin (u := .int .i64 z) (v := .int .i64 20000) (fun ρ hx hy => by simp only [execOp, hx, hy]; simp [go_sem]; omega) (F.ev rfl) rfl) fun a F => ?_
  refine lx_value (v := .bool false) F (wanted_none rfl _) rfl (by rfl) (o_pick (b := false) (r := .bool false) (F.ev rfl) rfl (F.ev rfl) rfl) fun a F => ?_
  refine lx_value (v := .bool false) F (wanted_none rfl _) rfl (by rfl) (o_move (F.ev rfl)) fun a F => ?_
  refine lx_value (v := rv N Y ((.slice pa l cap))) F (F.want (t := 18) (c := false) rfl rfl rfl (by rfl) rfl) rfl (by rfl) (o_loadR (F.ev rfl) (HM.get 0 rfl)) fun a F => ?_
  refine lx_call F (F.want (t := 18) (c := false) rfl rfl rfl (by rfl) rfl) rfl (by rfl) (run_callF Try.func11 (by kernel_rfl) (by rfl) (.cons (F.ev rfl) .nil) _) (cc _ HM.bel) fun a w z F => ?_
  replace HM := HM.on z
  clear z
  refine lx_value (v := .bool true) F (F.want (t := 18) (c := false) rfl rfl rfl (by rfl) rfl) rfl (by rfl) (o_not (b := false) (r := true) (F.ev rfl) rfl) fun a F => ?_
  refine lx_value (v := .bool true) F (wanted_none rfl _) rfl (by rfl) (o_pick (b := false) (r := .bool true) (F.ev rfl) rfl (F.ev rfl) rfl) fun a F => ?_
  refine lx_value (v := .bool true) F (wanted_none rfl _) rfl (by rfl) (o_move (F.ev rfl)) fun a F => ?_
  refine lx_pass F (F.want (t := 23) (c := true) rfl rfl rfl (by rfl) rfl) rfl (by rfl) fun a F => ?_
  refine lx_pass F (F.want (t := 23) (c := true) rfl rfl rfl (by rfl) rfl) rfl (by rfl) fun a F => ?_
  refine lx_pass F (F.want (t := 23) (c := true) rfl rfl rfl (by rfl) rfl) rfl (by rfl) fun a F => ?_
  refine lx_pass F (F.want (t := 23) (c := true) rfl rfl rfl (by rfl) rfl) rfl (by rfl) fun a F => ?_
  refine lx_value (v := .bool true) F (wanted_none rfl _) rfl (by rfl) (o_pick (b := true) (r := .bool true) (F.ev rfl) rfl (F.ev rfl) rfl) fun a F => ?_
  refine lx_nil ?_
  repeat (first | refine ex_then ?_ | refine ex_block ?_ | refine wp_seq ?_ | refine wp_block ?_ | refine wp_skip ?_)
  refine wp_cond_true (F.ev rfl) ?_
  repeat (first | refine ex_then ?_ | refine ex_block ?_ | refine wp_seq ?_ | refine wp_block ?_ | refine wp_skip ?_)
  refine wp_region_lit ?_
  refine lx_call F (wanted_none rfl _) rfl (by rfl) (run_callF Try.func9 (by kernel_rfl) (by rfl) .nil _) (alive7_any _) fun a w z F => ?_
  replace HM := HM.on z
  clear z
  refine lx_value (v := .bool true) F (wanted_none rfl _) rfl (by rfl) (o_assign (F.ev rfl)) fun a F => ?_
  refine lx_nil ?_
  repeat (first | refine ex_then ?_ | refine ex_block ?_ | refine wp_seq ?_ | refine wp_block ?_ | refine wp_skip ?_)
  refine wp_ret ?_
  repeat (first | refine ex_thenR ?_ | refine ex_blockR ?_)
  exact sx_ret F HM (res_tmp F rfl (s := 4) rfl)

set_option maxRecDepth 100000 in
set_option maxHeartbeats 8000000 in
theorem turned_3 (N Y l cap c : Nat) (pa : Option Addr) (z : Int) (w0 : World) (cz : ∀ u, Below w0.heap.size w0 u → Calls Try.prog 10 #[rv N Y (.slice pa l cap)] u fun e w2 => e = .returned (.int .i64 z) ∧ Below u.heap.size u w2) (cc : ∀ u, Below w0.heap.size w0 u → Calls Try.prog 11 #[rv N Y (.slice pa l cap)] u fun e w2 => e = .returned (.bool true) ∧ Below u.heap.size u w2) (hz : ¬ 20000 < z) (hl : l = 0) : Calls Try.prog 3 #[rv N Y ((.slice pa l cap)), .int .u8 (c : Nat)] w0 fun e w' => e = .returned (.bool true) ∧ Below w0.heap.size w0 w' := by
  refine sx_enter (args := [rv N Y ((.slice pa l cap)), .int .u8 (c : Nat)]) Try.func3 rfl Try.ntmps3 (by rfl) fun a F HM => ?_
  repeat (first | refine ex_then ?_ | refine ex_block ?_ | refine wp_seq ?_ | refine wp_block ?_ | refine wp_skip ?_)
  refine wp_region_lit ?_
  refine lx_new F HM (wanted_none rfl _) rfl (by rfl) (o_boxR (F.ev rfl) rfl) fun a w gr F HM => ?_
  refine lx_value (v := .bool false) F (wanted_none rfl _) rfl (by rfl) (o_assign rfl) fun a F => ?_
  refine lx_nil ?_
  repeat (first | refine ex_then ?_ | refine ex_block ?_ | refine wp_seq ?_ | refine wp_block ?_ | refine wp_skip ?_)
  refine wp_region_lit ?_
  refine lx_call F (wanted_none rfl _) rfl (by rfl) (run_callF Try.func9 (by kernel_rfl) (by rfl) .nil _) (alive7_any _) fun a w z F => ?_
  replace HM := HM.on z
  clear z
  refine lx_value (v := .bool false) F (wanted_none rfl _) rfl (by rfl) (o_not (b := true) (r := false) (F.ev rfl) rfl) fun a F => ?_
  refine lx_value (v := .bool false) F (wanted_none rfl _) rfl (by rfl) (o_move (F.ev rfl)) fun a F => ?_
  refine lx_value (v := rv N Y ((.slice pa l cap))) F (F.want (t := 13) (c := false) rfl rfl rfl (by rfl) rfl) rfl (by rfl) (o_loadR (F.ev rfl) (HM.get 0 rfl)) fun a F => ?_
  refine lx_call F (F.want (t := 13) (c := false) rfl rfl rfl (by rfl) rfl) rfl (by rfl) (run_callF Try.func10 (by kernel_rfl) (by rfl) (.cons (F.ev rfl) .nil) _) (cz _ HM.bel) fun a w z F => ?_
  replace HM := HM.on z
  clear z
  refine lx_value (v := .bool false) F (F.want (t := 13) (c := false) rfl rfl rfl (by rfl) rfl) rfl (by rfl) (o_bin (u := .int .i64 z) (v := .int .i64 20000) (fun ρ hx hy => by simp only [execOp, hx, hy]; simp [go_sem]; omega) (F.ev rfl) rfl) fun a F => ?_
  refine lx_value (v := .bool false) F (wanted_none rfl _) rfl (by rfl) (o_pick (b := false) (r := .bool false) (F.ev rfl) rfl (F.ev rfl) rfl) fun a F => ?_
  refine lx_value (v := .bool false) F (wanted_none rfl _) rfl (by rfl) (o_move (F.ev rfl)) fun a F => ?_
  refine lx_value (v := rv N Y ((.slice pa l cap))) F (F.want (t := 18) (c := false) rfl rfl rfl (by rfl) rfl) rfl (by rfl) (o_loadR (F.ev rfl) (HM.get 0 rfl)) fun a F => ?_
  refine lx_call F (F.want (t := 18) (c := false) rfl rfl rfl (by rfl) rfl) rfl (by rfl) (run_callF Try.func11 (by kernel_rfl) (by rfl) (.cons (F.ev rfl) .nil) _) (cc _ HM.bel) fun a w z F => ?_
  replace HM := HM.on z
  clear z
  refine lx_value (v := .bool false) F (F.want (t := 18) (c := false) rfl rfl rfl (by rfl) rfl) rfl (by rfl) (o_not (b := true) (r := false) (F.ev rfl) rfl) fun a F => ?_
  refine lx_value (v := .bool false) F (wanted_none rfl _) rfl (by rfl) (o_pick (b := false) (r := .bool false) (F.ev rfl) rfl (F.ev rfl) rfl) fun a F => ?_
  refine lx_value (v := .bool false) F (wanted_none rfl _) rfl (by rfl) (o_move (F.ev rfl)) fun a F => ?_
  refine lx_value (v := .pointer (some ⟨gr, 8, none⟩)) F (F.want (t := 23) (c := false) rfl rfl rfl (by rfl) rfl) rfl (by rfl) (o_fieldR2 (F.ev rfl)) fun a F => ?_
  refine lx_value (v := .slice pa l cap) F (F.want (t := 23) (c := false) rfl rfl rfl (by rfl) rfl) rfl (by rfl) (o_loadRP (F.ev rfl) (HM.get 0 rfl)) fun a F => ?_
  refine lx_value (v := .int .i64 (l : Nat)) F (F.want (t := 23) (c := false) rfl rfl rfl (by rfl) rfl) rfl (by rfl) (o_lenR (F.ev rfl)) fun a F => ?_
  refine lx_value (v := .bool true) F (F.want (t := 23) (c := false) rfl rfl rfl (by rfl) rfl) rfl (by rfl) (o_bin (u := .int .i64 (l : Nat)) (v := .int .i64 0) (fun ρ hx hy => by simp only [execOp, hx, hy]; simp [go_sem]; omega) (F.ev rfl) rfl) fun a F => ?_
  refine lx_value (v := .bool true) F (wanted_none rfl _) rfl (by rfl) (o_pick (b := false) (r := .bool true) (F.ev rfl) rfl (F.ev rfl) rfl) fun a F => ?_
  refine lx_nil ?_
  repeat (first | refine ex_then ?_ | refine ex_block ?_ | refine wp_seq ?_ | refine wp_block ?_ | refine wp_skip ?_)
  refine wp_cond_true (F.ev rfl) ?_
  repeat (first | refine ex_then ?_ | refine ex_block ?_ | refine wp_seq ?_ | refine wp_block ?_ | refine wp_skip ?_)
  refine wp_region_lit ?_
  refine lx_call F (wanted_none rfl _) rfl (by rfl) (run_callF Try.func9 (by kernel_rfl) (by rfl) .nil _) (alive7_any _) fun a w z F => ?_
  replace HM := HM.on z
  clear z
  refine lx_value (v := .bool true) F (wanted_none rfl _) rfl (by rfl) (o_assign (F.ev rfl)) fun a F => ?_
  refine lx_nil ?_
  repeat (first | refine ex_then ?_ | refine ex_block ?_ | refine wp_seq ?_ | refine wp_block ?_ | refine wp_skip ?_)
  refine wp_ret ?_
  repeat (first | refine ex_thenR ?_ | refine ex_blockR ?_)
  exact sx_ret F HM (res_tmp F rfl (s := 4) rfl)

set_option maxRecDepth 100000 in
set_option maxHeartbeats 40000000 in
theorem turned_w (N Y gp op cap c k fo q1 y1 l1 c1 q0 y0 l0 c0 : Nat) (a1 a0 : Option Addr) (ps : List Rsn) (z : Int) (w0 : World) (hN : N < 2 ^ 256) (hY : Y < 2 ^ 256) (hc : c < 256) (hz : ¬ 20000 < z) (hk : k = c % ps.length) (hkl : k < ps.length) (hlen : ps.length < 32) (hcap : ps.length ≤ cap) (hne : ps ≠ []) (hh : (Rsn.mk N Y ps).holds = true) (hLL : LensL ps) (hs0 : Sl w0 (some ⟨gp, op, none⟩) cap ps) (hall : ∀ i (hi : i < ps.length), RsAt w0 ps[i] gp (op + 9 * i)) (hcells : ∀ j, j < 9 * ps.length → ∃ v, w0.cell? ⟨gp, op + j, none⟩ = some v ∧ v.oneCell' = true) (hfo : fo = if cap = k + 1 then 0 else (k + 1) * 9) (ck : ∀ u, Below w0.heap.size w0 u → C9 u gp (op + k * 9) q1 y1 (.slice a1 l1 c1)) (ck9 : ∀ t, t < 9 → w0.cell? ⟨gp, op + 9 * k + t, none⟩ = (nine q1 y1 (.slice a1 l1 c1))[t]?) (cj : ∀ u, Below w0.heap.size w0 u → C9 u gp (op + (k - 1) * 9) q0 y0 (.slice a0 l0 c0)) (cj9 : ∀ t, t < 9 → w0.cell? ⟨gp, op + 9 * (k - 1) + t, none⟩ = (nine q0 y0 (.slice a0 l0 c0))[t]?) (cz : ∀ u, Below w0.heap.size w0 u → Calls Try.prog 10 #[rv N Y (.slice (some ⟨gp, op, none⟩) ps.length cap)] u fun e w2 => e = .returned (.int .i64 z) ∧ Below u.heap.size u w2) (cc : ∀ u, Below w0.heap.size w0 u → Calls Try.prog 11 #[rv N Y (.slice (some ⟨gp, op, none⟩) ps.length cap)] u fun e w2 => e = .returned (.bool true) ∧ Below u.heap.size u w2) (cT : ∀ u, Below w0.heap.size w0 u → Calls Try.prog 12 #[rv N Y (.slice (some ⟨gp, op, none⟩) ps.length cap)] u fun e w2 => ∃ v, e = .returned v ∧ (∃ g, v = rv N Y (.slice (some ⟨g, 0, none⟩) ps.length (ps.length + 1)) ∧ u.heap.size ≤ g ∧ TwR w2 g ps) ∧ Below u.heap.size u w2) : Calls Try.prog 3 #[rv N Y ((.slice (some ⟨gp, op, none⟩) ps.length cap)), .int .u8 (c : Nat)] w0 fun e w' => e = .returned (.bool true) ∧ Below w0.heap.size w0 w' := by
  refine sx_enter (args := [rv N Y ((.slice (some ⟨gp, op, none⟩) ps.length cap)), .int .u8 (c : Nat)]) Try.func3 rfl Try.ntmps3 (by rfl) fun a F HM => ?_
  repeat (first | refine ex_then ?_ | refine ex_block ?_ | refine wp_seq ?_ | refine wp_block ?_ | refine wp_skip ?_)
  refine wp_region_lit ?_
  refine lx_new F HM (wanted_none rfl _) rfl (by rfl) (o_boxR (F.ev rfl) rfl) fun a w gr F HM => ?_
  refine lx_value (v := .bool false) F (wanted_none rfl _) rfl (by rfl) (o_assign rfl) fun a F => ?_
  refine lx_nil ?_
  repeat (first | refine ex_then ?_ | refine ex_block ?_ | refine wp_seq ?_ | refine wp_block ?_ | refine wp_skip ?_)
  refine wp_region_lit ?_
  refine lx_call F (wanted_none rfl _) rfl (by rfl) (run_callF Try.func9 (by kernel_rfl) (by rfl) .nil _) (alive7_any _) fun a w z F => ?_
  replace HM := HM.on z
  clear z
  refine lx_value (v := .bool false) F (wanted_none rfl _) rfl (by rfl) (o_not (b := true) (r := false) (F.ev rfl) rfl) fun a F => ?_
  refine lx_value (v := .bool false) F (wanted_none rfl _) rfl (by rfl) (o_move (F.ev rfl)) fun a F => ?_
  refine lx_value (v := rv N Y ((.slice (some ⟨gp, op, none⟩) ps.length cap))) F (F.want (t := 13) (c := false) rfl rfl rfl (by rfl) rfl) rfl (by rfl) (o_loadR (F.ev rfl) (HM.get 0 rfl)) fun a F => ?_
  refine lx_call F (F.want (t := 13) (c := false) rfl rfl rfl (by rfl) rfl) rfl (by rfl) (run_callF Try.func10 (by kernel_rfl) (by rfl) (.cons (F.ev rfl) .nil) _) (cz _ HM.bel) fun a w z F => ?_
  replace HM := HM.on z
  clear z
  refine lx_value (v := .bool false) F (F.want (t := 13) (c := false) rfl rfl rfl (by rfl) rfl) rfl (by rfl) (o_bin (u := .int .i64 z) (v := .int .i64 20000) (fun ρ hx hy => by simp only [execOp, hx, hy]; simp [go_sem]; omega) (F.ev rfl) rfl) fun a F => ?_
  refine lx_value (v := .bool false) F (wanted_none rfl _) rfl (by rfl) (o_pick (b := false) (r := .bool false) (F.ev rfl) rfl (F.ev rfl) rfl) fun a F => ?_
  refine lx_value (v := .bool false) F (wanted_none rfl _) rfl (by rfl) (o_move (F.ev rfl)) fun a F => ?_
  refine lx_value (v := rv N Y ((.slice (some ⟨gp, op, none⟩) ps.length cap))) F (F.want (t := 18) (c := false) rfl rfl rfl (by rfl) rfl) rfl (by rfl) (o_loadR (F.ev rfl) (HM.get 0 rfl)) fun a F => ?_
  refine lx_call F (F.want (t := 18) (c := false) rfl rfl rfl (by rfl) rfl) rfl (by rfl) (run_callF Try.func11 (by kernel_rfl) (by rfl) (.cons (F.ev rfl) .nil) _) (cc _ HM.bel) fun a w z F => ?_
  replace HM := HM.on z
  clear z
  refine lx_value (v := .bool false) F (F.want (t := 18) (c := false) rfl rfl rfl (by rfl) rfl) rfl (by rfl) (o_not (b := true) (r := false) (F.ev rfl) rfl) fun a F => ?_
  refine lx_value (v := .bool false) F (wanted_none rfl _) rfl (by rfl) (o_pick (b := false) (r := .bool false) (F.ev rfl) rfl (F.ev rfl) rfl) fun a F => ?_
  refine lx_value (v := .bool false) F (wanted_none rfl _) rfl (by rfl) (o_move (F.ev rfl)) fun a F => ?_
  refine lx_value (v := .pointer (some ⟨gr, 8, none⟩)) F (F.want (t := 23) (c := false) rfl rfl rfl (by rfl) rfl) rfl (by rfl) (o_fieldR2 (F.ev rfl)) fun a F => ?_
  refine lx_value (v := .slice (some ⟨gp, op, none⟩) ps.length cap) F (F.want (t := 23) (c := false) rfl rfl rfl (by rfl) rfl) rfl (by rfl) (o_loadRP (F.ev rfl) (HM.get 0 rfl)) fun a F => ?_
  refine lx_value (v := .int .i64 (ps.length : Nat)) F (F.want (t := 23) (c := false) rfl rfl rfl (by rfl) rfl) rfl (by rfl) (o_lenR (F.ev rfl)) fun a F => ?_
  refine lx_value (v := .bool false) F (F.want (t := 23) (c := false) rfl rfl rfl (by rfl) rfl) rfl (by rfl) (o_bin (u := .int .i64 (ps.length : Nat)) (v := .int .i64 0) (fun ρ hx hy => by simp only [execOp, hx, hy]; simp [go_sem]; omega) (F.ev rfl) rfl) fun a F => ?_
  refine lx_value (v := .bool false) F (wanted_none rfl _) rfl (by rfl) (o_pick (b := false) (r := .bool false) (F.ev rfl) rfl (F.ev rfl) rfl) fun a F => ?_
  refine lx_nil ?_
  repeat (first | refine ex_then ?_ | refine ex_block ?_ | refine wp_seq ?_ | refine wp_block ?_ | refine wp_skip ?_)
  refine wp_cond_false (F.ev rfl) ?_
  repeat (first | refine ex_then ?_ | refine ex_block ?_ | refine wp_seq ?_ | refine wp_block ?_ | refine wp_skip ?_)
  refine wp_region_lit ?_
  refine lx_value (v := .int .u8 (c : Nat)) F (wanted_none rfl _) rfl (by rfl) (o_move (F.ev rfl)) fun a F => ?_
  refine lx_value (v := .int .i64 (c : Nat)) F (wanted_none rfl _) rfl (by rfl) (o_conv8 hc (F.ev rfl)) fun a F => ?_
  refine lx_value (v := .pointer (some ⟨gr, 8, none⟩)) F (wanted_none rfl _) rfl (by rfl) (o_fieldR2 (F.ev rfl)) fun a F => ?_
  refine lx_value (v := .slice (some ⟨gp, op, none⟩) ps.length cap) F (wanted_none rfl _) rfl (by rfl) (o_loadRP (F.ev rfl) (HM.get 0 rfl)) fun a F => ?_
  refine lx_value (v := .int .i64 (ps.length : Nat)) F (wanted_none rfl _) rfl (by rfl) (o_lenR (F.ev rfl)) fun a F => ?_
  refine lx_value (v := .int .i64 (k : Nat)) F (wanted_none rfl _) rfl (by rfl) (by rw [hk]; exact o_remN (m := c) (k := ps.length) (by omega) (by omega) (F.ev rfl) (F.ev rfl)) fun a F => ?_
  refine lx_value (v := .int .i64 (k : Nat)) F (wanted_none rfl _) rfl (by rfl) (o_assign (F.ev rfl)) fun a F => ?_
  refine lx_nil ?_
  repeat (first | refine ex_then ?_ | refine ex_block ?_ | refine wp_seq ?_ | refine wp_block ?_ | refine wp_skip ?_)
  refine wp_region_lit ?_
  refine lx_value (v := rv N Y ((.slice (some ⟨gp, op, none⟩) ps.length cap))) F (wanted_none rfl _) rfl (by rfl) (o_loadR (F.ev rfl) (HM.get 0 rfl)) fun a F => ?_
  refine lx_callE F (wanted_none rfl _) rfl (by rfl) (run_callF Try.func12 (by kernel_rfl) (by rfl) (.cons (F.ev rfl) .nil) _) (cT _ HM.bel) fun a w vt hz F => ?_
  obtain ⟨⟨g1, rfl, hg1, -⟩, zb⟩ := hz
  replace HM := HM.on zb
  clear zb hg1
  refine lx_new F HM (wanted_none rfl _) rfl (by rfl) (o_allocR) fun a w gt F HM => ?_
  refine lx_store F HM (wanted_none rfl _) rfl (k := 0) rfl (o_storeR (F.ev rfl) (F.ev rfl) (HM.get 0 rfl) rfl) (M2 := [(gt, 27, rcs N Y ((.slice (some ⟨g1, 0, none⟩) ps.length (ps.length + 1)))), (gr, 27, rcs N Y ((.slice (some ⟨gp, op, none⟩) ps.length cap)))]) (by rw [sets9]; rfl) fun w HM => ?_
  refine lx_nil ?_
  repeat (first | refine ex_then ?_ | refine ex_block ?_ | refine wp_seq ?_ | refine wp_block ?_ | refine wp_skip ?_)
  try simp only [List.append_eq, List.cons_append, List.nil_append]
  refine sx_drawnS (S := fun w' => Below w0.heap.size w0 w' ∧ At w' gr 27 (rcs N Y (.slice (some ⟨gp, op, none⟩) ps.length cap))) [⟨0, 38, [], .val (.pointer (some ⟨gr, 8, none⟩)), true⟩,
      ⟨1, 39, [0], .val (.slice (some ⟨gp, op, none⟩) ps.length cap), true⟩,
      ⟨2, 40, [1], .val (.int .i64 (k : Nat)), true⟩,
      ⟨3, 41, [2], .val (.int .i64 ((k + 1 : Nat) : Int)), true⟩,
      ⟨4, 42, [1, 3], .val (.slice (some ⟨gp, op, none⟩) (k + 1) cap), true⟩,
      ⟨6, 44, [4], .val (.pointer (some ⟨gr, 8, none⟩)), true⟩,
      ⟨7, 45, [5], .val (.slice (some ⟨gp, op, none⟩) ps.length cap), true⟩,
      ⟨8, 46, [6], .val (.int .i64 (k : Nat)), true⟩,
      ⟨9, 47, [6, 7], .val (.pointer (some ⟨gp, op + k * 9, none⟩)), true⟩,
      ⟨10, 48, [8], .val (rv q1 y1 ((.slice a1 l1 c1))), true⟩,
      ⟨13, 51, [9], .val (.pointer (some ⟨gr, 8, none⟩)), true⟩,
      ⟨14, 52, [10], .val (.slice (some ⟨gp, op, none⟩) ps.length cap), true⟩,
      ⟨15, 53, [11], .val (.int .i64 (k : Nat)), true⟩,
      ⟨16, 54, [12], .val (.int .i64 ((k + 1 : Nat) : Int)), true⟩,
      ⟨17, 55, [11, 13], .val (.slice (some ⟨gp, op + fo, none⟩) (ps.length - (k + 1)) (cap - (k + 1))), true⟩] 6 F HM (fun _ h => ⟨h.bel, h.get 1 rfl⟩) (by kernel_rfl) (by rfl) (by rfl) ?_ ?_ ?_ ?_ ?_ ?_ ?_
  · kernel_rfl
  · exact of_decide_eq_true (by kernel_rfl)
  · exact all_cons ⟨_, by rfl, by rfl⟩ (all_cons ⟨_, by rfl, by rfl⟩ (all_cons ⟨_, by rfl, by rfl⟩ (all_cons ⟨_, by rfl, by rfl⟩ (all_cons ⟨_, by rfl, by rfl⟩ (all_cons ⟨_, by rfl, by rfl⟩ (all_cons ⟨_, by rfl, by rfl⟩ (all_cons ⟨_, by rfl, by rfl⟩ (all_cons ⟨_, by rfl, by rfl⟩ (all_cons ⟨_, by rfl, by rfl⟩ (all_cons ⟨_, by rfl, by rfl⟩ (all_cons ⟨_, by rfl, by rfl⟩ (all_cons ⟨_, by rfl, by rfl⟩ (all_cons ⟨_, by rfl, by rfl⟩ (all_cons ⟨_, by rfl, by rfl⟩ (all_nil)))))))))))))))
  · kernel_rfl
  · refine all_cons ?_ (all_cons ?_ (all_cons ?_ (all_cons ?_ (all_cons ?_ (all_cons ?_ (all_cons ?_ (all_cons ?_ (all_cons ?_ (all_cons ?_ (all_cons ?_ (all_cons ?_ (all_cons ?_ (all_cons ?_ (all_cons ?_ (all_nil)))))))))))))))
    · exact coreS _ _ _ _ _ _ _ (by rfl) (by rfl) (wants_none) (fun ρ w kn hs => o_fieldR2 (kn _ _ (F.old (by rfl) rfl)))
    · exact coreS _ _ _ _ _ _ _ (by rfl) (by rfl) (wants_none) (fun ρ w kn hs => o_loadRP (kn _ _ (known_core 0 38 _ _ (of_decide_eq_true (by rfl)) (by rfl) (by rfl) (by rfl))) hs.2)
    · exact coreS _ _ _ _ _ _ _ (by rfl) (by rfl) (wants_none) (fun ρ w kn hs => o_move (kn _ _ (F.old (by rfl) rfl)))
    · exact coreS _ _ _ _ _ _ _ (by rfl) (by rfl) (wants_none) (fun ρ w kn hs => o_addI (m := k) (k := 1) (by omega) (kn _ _ (known_core 2 40 _ _ (of_decide_eq_true (by rfl)) (by rfl) (by rfl) (by rfl))) (kn _ _ (known_const _)))
    · exact coreS _ _ _ _ _ _ _ (by rfl) (by rfl) (wants_none) (fun ρ w kn hs => o_cutToR (k := k + 1) (by omega) (by omega) (kn _ _ (known_core 1 39 _ _ (of_decide_eq_true (by rfl)) (by rfl) (by rfl) (by rfl))) (kn _ _ (known_core 3 41 _ _ (of_decide_eq_true (by rfl)) (by rfl) (by rfl) (by rfl))))
    · exact coreS _ _ _ _ _ _ _ (by rfl) (by rfl) (wants_none) (fun ρ w kn hs => o_fieldR2 (kn _ _ (F.old (by rfl) rfl)))
    · exact coreS _ _ _ _ _ _ _ (by rfl) (by rfl) (wants_none) (fun ρ w kn hs => o_loadRP (kn _ _ (known_core 5 44 _ _ (of_decide_eq_true (by rfl)) (by rfl) (by rfl) (by rfl))) hs.2)
    · exact coreS _ _ _ _ _ _ _ (by rfl) (by rfl) (wants_none) (fun ρ w kn hs => o_move (kn _ _ (F.old (by rfl) rfl)))
    · exact coreS _ _ _ _ _ _ _ (by rfl) (by rfl) (wants_none) (fun ρ w kn hs => o_idxR hkl (kn _ _ (known_core 6 45 _ _ (of_decide_eq_true (by rfl)) (by rfl) (by rfl) (by rfl))) (kn _ _ (known_core 7 46 _ _ (of_decide_eq_true (by rfl)) (by rfl) (by rfl) (by rfl))))
    · exact coreS _ _ _ _ _ _ _ (by rfl) (by rfl) (wants_none) (fun ρ w kn hs => o_loadC9 (kn _ _ (known_core 8 47 _ _ (of_decide_eq_true (by rfl)) (by rfl) (by rfl) (by rfl))) (ck _ hs.1))
    · exact coreS _ _ _ _ _ _ _ (by rfl) (by rfl) (wants_none) (fun ρ w kn hs => o_fieldR2 (kn _ _ (F.old (by rfl) rfl)))
    · exact coreS _ _ _ _ _ _ _ (by rfl) (by rfl) (wants_none) (fun ρ w kn hs => o_loadRP (kn _ _ (known_core 10 51 _ _ (of_decide_eq_true (by rfl)) (by rfl) (by rfl) (by rfl))) hs.2)
    · exact coreS _ _ _ _ _ _ _ (by rfl) (by rfl) (wants_none) (fun ρ w kn hs => o_move (kn _ _ (F.old (by rfl) rfl)))
    · exact coreS _ _ _ _ _ _ _ (by rfl) (by rfl) (wants_none) (fun ρ w kn hs => o_addI (m := k) (k := 1) (by omega) (kn _ _ (known_core 12 53 _ _ (of_decide_eq_true (by rfl)) (by rfl) (by rfl) (by rfl))) (kn _ _ (known_const _)))
    · exact coreS _ _ _ _ _ _ _ (by rfl) (by rfl) (wants_none) (fun ρ w kn hs => o_cutFromR (k := k + 1) (by omega) hcap hfo (kn _ _ (known_core 11 52 _ _ (of_decide_eq_true (by rfl)) (by rfl) (by rfl) (by rfl))) (kn _ _ (known_core 13 54 _ _ (of_decide_eq_true (by rfl)) (by rfl) (by rfl) (by rfl))))
  · refine all_cons ?_ (all_cons ?_ (all_cons ?_ (all_cons ?_ (all_cons ?_ (all_cons ?_ (all_cons ?_ (all_cons ?_ (all_cons ?_ (all_cons ?_ (all_cons ?_ (all_cons ?_ (all_cons ?_ (all_cons ?_ (all_cons ?_ (all_nil)))))))))))))))
    · exact core_stepAs _ (by rfl)
    · exact core_stepAs _ (by rfl)
    · exact core_stepAs _ (by rfl)
    · exact core_stepAs _ (by rfl)
    · exact core_stepAs _ (by rfl)
    · exact core_stepAs _ (by rfl)
    · exact core_stepAs _ (by rfl)
    · exact core_stepAs _ (by rfl)
    · exact core_stepAs _ (by rfl)
    · exact core_stepAs _ (by rfl)
    · exact core_stepAs _ (by rfl)
    · exact core_stepAs _ (by rfl)
    · exact core_stepAs _ (by rfl)
    · exact core_stepAs _ (by rfl)
    · exact core_stepAs _ (by rfl)
  intro gs rs a wB hgs hrs F HM HBW
  obtain rfl := nl0 rs hrs
  clear hrs
  obtain rfl := nl0 gs hgs
  clear hgs
  have hM5 := HM.lt
  have hb5 : w0.heap.size ≤ wB.heap.size := HM.bel.size
  have hB5 := HM.bel
  have hrc := fun (j : Nat) (u : Value) (h : (rowC w0 gp op (9 * ps.length))[j]? = some u) => rowC_of hcells h
  refine two_new (i := 5) (j := 11) (d := 43) (e := 49) (m := k + 1) (news := (rowC w0 gp op (9 * ps.length)).take (9 * (k + 1))) (ad := ⟨gp, op, none⟩) (s := .const (.slice none 0 0)) (x := .tmp 42) (z := .tmp 48) F HM (by kernel_rfl) (by kernel_rfl) (by kernel_rfl) (by decide) (by decide) (by rfl) (by rfl) (by rfl) (by rfl) rfl rfl rfl (by decide) rfl rfl (by decide)
    (by rw [List.length_take, rowC_len]; omega) (fun u hu j v h => by
      rw [List.getElem?_take] at h
      split at h
      · rw [Addr.add_lit]; exact cell_on (hB5.trans (hu.mono hB5.size)) (hrc j v h).2.1
      · cases h)
    (fun u hu => by
      obtain ⟨j, hj⟩ := List.getElem?_of_mem (List.mem_of_mem_take hu)
      exact (hrc j u hj).2.2) (by omega) (fun _ h => ⟨h.bel, h.get 1 rfl⟩) ?_
  intro a w v1 gB F HM n1 hat hsz
  refine app9_one (base := wB.heap.size) (n := k + 1) (m := 1) (c := 1) (news := nine q1 y1 (.slice a1 l1 c1)) (ad := ⟨gB, 0, none⟩) (i := 12) (d := 50) (s := .tmp 43) (x := .tmp 49) F HM (by kernel_rfl) (by rfl) (by rfl) n1 (F.ev rfl) (F.ev rfl) rfl
    (fun j u hj => by rw [Addr.add_lit, Nat.zero_add, hat.cell j]; simpa using hj) (nine_cell _ _ _ _ _) (by omega) hsz hM5 hb5 (fun _ h => ⟨h.bel, h.get 1 rfl⟩) fun a w v2 F HM n2 hsz => ?_
  refine app9_one (base := wB.heap.size) (n := k + 1 + 1) (m := ps.length - (k + 1)) (c := cap - (k + 1)) (news := (rowC w0 gp op (9 * ps.length)).drop (9 * (k + 1))) (ad := ⟨gp, op + fo, none⟩) (i := 18) (d := 56) (s := .tmp 50) (x := .tmp 55) F HM (by kernel_rfl) (by rfl) (by rfl) n2 (F.ev rfl) (F.ev rfl) (by rw [List.length_drop, rowC_len]; omega)
    (fun j u hj => by
      rw [List.getElem?_drop] at hj
      obtain ⟨e1, e2, _⟩ := hrc _ u hj
      have e3 : fo = (k + 1) * 9 := by rw [hfo, if_neg (by omega)]
      rw [Addr.add_lit, e3, show op + (k + 1) * 9 + j = op + (9 * (k + 1) + j) by omega]
      exact cell_on HM.bel e2)
    (fun u hu => by
      obtain ⟨j, hj⟩ := List.getElem?_of_mem (List.mem_of_mem_drop hu)
      exact (hrc j u hj).2.2) (by omega) hsz hM5 hb5 (fun _ h => ⟨h.bel, h.get 1 rfl⟩) fun a w v3 F HM n3 hsz => ?_
  obtain ⟨gv, cv, rfl⟩ := n3.form (by omega)
  have en : k + 1 + 1 + (ps.length - (k + 1)) = ps.length + 1 := by omega
  rw [en] at n3 F
  refine sx_val1 (i := 19) (d := 57) (v := .pointer (some ⟨gt, 8, none⟩)) F (by kernel_rfl) (by rfl) rfl rfl (by rfl) (o_fieldR2 (F.ev rfl)) ⟨HM.bel, HM.get 1 rfl⟩ fun a F => ?_
  have htB : gt < wB.heap.size := hM5 _ List.mem_cons_self
  have HM5 := Mem.puts [.slice (some ⟨gv, 0, none⟩) (ps.length + 1) cv] HM (k := 0) rfl 8
  rw [sets1] at HM5
  have n4 := NR9.putsFar htB [.slice (some ⟨gv, 0, none⟩) (ps.length + 1) cv] 8 n3
  refine sx_storeP (i := 20) (by kernel_rfl) (by rfl) rfl rfl (o_storeRP (F.ev rfl) (F.ev rfl) rfl (HM.get 0 rfl)) ⟨HM5.bel, HM5.get 1 rfl⟩ ?_
  replace HM : Mem w0.heap.size w0 (puts w gt 8 [.slice (some ⟨gv, 0, none⟩) (ps.length + 1) cv]) [(gt, 27, rcs N Y ((.slice (some ⟨gv, 0, none⟩) (ps.length + 1) cv))), (gr, 27, rcs N Y ((.slice (some ⟨gp, op, none⟩) ps.length cap)))] := HM5
  generalize puts w gt 8 [.slice (some ⟨gv, 0, none⟩) (ps.length + 1) cv] = w5 at *
  clear HM5
  obtain ⟨gv2, cv2, hv2, hST⟩ := twice_sl (cap := cap) hkl HM.bel hall ck9 n4
  cases hv2
  clear n1 n2 n3 n4 hat hsz hM5 hb5 hB5 hrc hcells
  refine sx_done (by kernel_rfl) ?_ _
  have HB := HM.bel
  have Hr := HM.get 1 rfl
  have qr := HM.lt _ (List.mem_of_getElem? (show _[1]? = some _ from rfl))
  have Ht := HM.get 0 rfl
  have qt := HM.lt _ (List.mem_of_getElem? (show _[0]? = some _ from rfl))
  clear HM
  have HM := Mem.start w5
  repeat (first | refine ex_then ?_ | refine ex_block ?_ | refine wp_seq ?_ | refine wp_block ?_ | refine wp_skip ?_)
  refine wp_region_lit ?_
  refine lx_value (v := rv N Y ((.slice (some ⟨gp, op, none⟩) ps.length cap))) F (wanted_none rfl _) rfl (by rfl) (o_loadR (F.ev rfl) (Hr.on HM.bel)) fun a F => ?_
  refine lx_callE F (wanted_none rfl _) rfl (by rfl) (run_callF Try.func12 (by kernel_rfl) (by rfl) (.cons (F.ev rfl) .nil) _) (cT _ (HB.trans (HM.bel.mono HB.size))) fun a w6 vt hz F => ?_
  obtain ⟨⟨g2, rfl, hg2, T2⟩, zb⟩ := hz
  have B56 : Below w5.heap.size w5 w6 := zb
  have HB6 := HB.trans (B56.mono HB.size)
  replace Hr := Hr.on B56; replace Ht := Ht.on B56
  clear zb HM
  have HM := Mem.start w6
  refine lx_new F HM (wanted_none rfl _) rfl (by rfl) (o_allocR) fun a w gu F HM => ?_
  refine lx_store F HM (wanted_none rfl _) rfl (k := 0) rfl (o_storeR (F.ev rfl) (F.ev rfl) (HM.get 0 rfl) rfl) (M2 := [(gu, 27, rcs N Y ((.slice (some ⟨g2, 0, none⟩) ps.length (ps.length + 1))))]) (by rw [sets9]; rfl) fun w HM => ?_
  refine lx_nil ?_
  by_cases hk0 : 0 < k
  · repeat (first | refine ex_then ?_ | refine ex_block ?_ | refine wp_seq ?_ | refine wp_block ?_ | refine wp_skip ?_)
    refine wp_region_lit ?_
    refine lx_value (v := .int .i64 (k : Nat)) F (wanted_none rfl _) rfl (by rfl) (o_move (F.ev rfl)) fun a F => ?_
    refine lx_value (v := .bool true) F (wanted_none rfl _) rfl (by rfl) (o_bin (u := .int .i64 (k : Nat)) (v := .int .i64 0) (fun ρ hx hy => by simp only [execOp, hx, hy]; simp [go_sem]; omega) (F.ev rfl) rfl) fun a F => ?_
    refine lx_nil ?_
    repeat (first | refine ex_then ?_ | refine ex_block ?_ | refine wp_seq ?_ | refine wp_block ?_ | refine wp_skip ?_)
    refine wp_cond_true (F.ev rfl) ?_
    have T7 := T2.on HM.bel
    have HB7 := HB6.trans (HM.bel.mono HB6.size)
    have B57 := B56.trans (HM.bel.mono B56.size)
    replace Hr := Hr.on HM.bel; replace Ht := Ht.on HM.bel
    have q2 : g2 < w.heap.size := by obtain ⟨⟨cur, h, _⟩, _⟩ := T7.te; exact h.lt
    have qu : g2 < gu := by have h1 := HM.own _ List.mem_cons_self; obtain ⟨⟨cur, h, _⟩, _⟩ := T2.te; have := h.lt; exact Nat.lt_of_lt_of_le this h1
    replace HM := HM.lower B56.size
    clear T2
    obtain ⟨w7, hw7⟩ : ∃ w7, w7 = w := ⟨_, rfl⟩
    rw [← hw7] at HM HB7 B57 Hr Ht q2 T7 ⊢
    clear hw7
    have le05 : w0.heap.size ≤ w5.heap.size := HB.size
    repeat (first | refine ex_then ?_ | refine ex_block ?_ | refine wp_seq ?_ | refine wp_block ?_ | refine wp_skip ?_)
    try simp only [List.append_eq, List.cons_append, List.nil_append]
    refine sx_drawnS (S := fun w' => Mem w5.heap.size w7 w' [(gu, 27, rcs N Y ((.slice (some ⟨g2, 0, none⟩) ps.length (ps.length + 1))))]) [⟨0, 62, [], .val (.pointer (some ⟨gu, 8, none⟩)), true⟩,
      ⟨1, 63, [0], .val (.slice (some ⟨g2, 0, none⟩) ps.length (ps.length + 1)), true⟩,
      ⟨2, 64, [1], .val (.int .i64 (k : Nat)), true⟩,
      ⟨3, 65, [2], .val (.pointer (some ⟨gr, 8, none⟩)), true⟩,
      ⟨4, 66, [3], .val (.slice (some ⟨gp, op, none⟩) ps.length cap), true⟩,
      ⟨5, 67, [4], .val (.int .i64 (k : Nat)), true⟩,
      ⟨6, 68, [5], .val (.int .i64 ((k - 1 : Nat) : Int)), true⟩,
      ⟨7, 69, [4, 6], .val (.pointer (some ⟨gp, op + (k - 1) * 9, none⟩)), true⟩,
      ⟨8, 70, [7], .val (rv q0 y0 ((.slice a0 l0 c0))), true⟩,
      ⟨9, 71, [1, 2, 8], .val (.pointer (some ⟨g2, 0 + k * 9, none⟩)), true⟩] 1 F HM (fun _ h => h) (by kernel_rfl) (by rfl) (by rfl) ?_ ?_ ?_ ?_ ?_ ?_ ?_
    · kernel_rfl
    · exact of_decide_eq_true (by kernel_rfl)
    · exact all_cons ⟨_, by rfl, by rfl⟩ (all_cons ⟨_, by rfl, by rfl⟩ (all_cons ⟨_, by rfl, by rfl⟩ (all_cons ⟨_, by rfl, by rfl⟩ (all_cons ⟨_, by rfl, by rfl⟩ (all_cons ⟨_, by rfl, by rfl⟩ (all_cons ⟨_, by rfl, by rfl⟩ (all_cons ⟨_, by rfl, by rfl⟩ (all_cons ⟨_, by rfl, by rfl⟩ (all_cons ⟨_, by rfl, by rfl⟩ (all_nil))))))))))
    · kernel_rfl
    · refine all_cons ?_ (all_cons ?_ (all_cons ?_ (all_cons ?_ (all_cons ?_ (all_cons ?_ (all_cons ?_ (all_cons ?_ (all_cons ?_ (all_cons ?_ (all_nil))))))))))
      · exact coreS _ _ _ _ _ _ _ (by rfl) (by rfl) (wants_none) (fun ρ w kn hs => o_fieldR2 (kn _ _ (F.old (by rfl) rfl)))
      · exact coreS _ _ _ _ _ _ _ (by rfl) (by rfl) (wants_none) (fun ρ w kn hs => o_loadRP (kn _ _ (known_core 0 62 _ _ (of_decide_eq_true (by rfl)) (by rfl) (by rfl) (by rfl))) (hs.get 0 rfl))
      · exact coreS _ _ _ _ _ _ _ (by rfl) (by rfl) (wants_none) (fun ρ w kn hs => o_move (kn _ _ (F.old (by rfl) rfl)))
      · exact coreS _ _ _ _ _ _ _ (by rfl) (by rfl) (wants_none) (fun ρ w kn hs => o_fieldR2 (kn _ _ (F.old (by rfl) rfl)))
      · exact coreS _ _ _ _ _ _ _ (by rfl) (by rfl) (wants_none) (fun ρ w kn hs => o_loadRP (kn _ _ (known_core 3 65 _ _ (of_decide_eq_true (by rfl)) (by rfl) (by rfl) (by rfl))) (Hr.low qr hs.bel))
      · exact coreS _ _ _ _ _ _ _ (by rfl) (by rfl) (wants_none) (fun ρ w kn hs => o_move (kn _ _ (F.old (by rfl) rfl)))
      · exact coreS _ _ _ _ _ _ _ (by rfl) (by rfl) (wants_none) (fun ρ w kn hs => o_subI (m := k) (k := 1) (by omega) (by omega) (kn _ _ (known_core 5 67 _ _ (of_decide_eq_true (by rfl)) (by rfl) (by rfl) (by rfl))) (kn _ _ (known_const _)))
      · exact coreS _ _ _ _ _ _ _ (by rfl) (by rfl) (wants_none) (fun ρ w kn hs => o_idxR (i := (k - 1)) (l := ps.length) (by omega) (kn _ _ (known_core 4 66 _ _ (of_decide_eq_true (by rfl)) (by rfl) (by rfl) (by rfl))) (kn _ _ (known_core 6 68 _ _ (of_decide_eq_true (by rfl)) (by rfl) (by rfl) (by rfl))))
      · exact coreS _ _ _ _ _ _ _ (by rfl) (by rfl) (wants_none) (fun ρ w kn hs => o_loadC9 (kn _ _ (known_core 7 69 _ _ (of_decide_eq_true (by rfl)) (by rfl) (by rfl) (by rfl))) (cj _ (HB7.trans (hs.bel.mono le05))))
      · exact coreS _ _ _ _ _ _ _ (by rfl) (by rfl) (wants_none) (fun ρ w kn hs => o_idxR (i := k) (l := ps.length) (by omega) (kn _ _ (known_core 1 63 _ _ (of_decide_eq_true (by rfl)) (by rfl) (by rfl) (by rfl))) (kn _ _ (known_core 2 64 _ _ (of_decide_eq_true (by rfl)) (by rfl) (by rfl) (by rfl))))
    · refine all_cons ?_ (all_cons ?_ (all_cons ?_ (all_cons ?_ (all_cons ?_ (all_cons ?_ (all_cons ?_ (all_cons ?_ (all_cons ?_ (all_cons ?_ (all_nil))))))))))
      · exact core_stepAs _ (by rfl)
      · exact core_stepAs _ (by rfl)
      · exact core_stepAs _ (by rfl)
      · exact core_stepAs _ (by rfl)
      · exact core_stepAs _ (by rfl)
      · exact core_stepAs _ (by rfl)
      · exact core_stepAs _ (by rfl)
      · exact core_stepAs _ (by rfl)
      · exact core_stepAs _ (by rfl)
      · exact core_stepAs _ (by rfl)
    intro gs rs a w8 hgs hrs F HM HBW
    obtain rfl := nl0 rs hrs
    clear hrs
    obtain rfl := nl0 gs hgs
    clear hgs
    have T8 := T7.on HBW
    have hM_ := mem_putsFar hg2 (fun x hx => by rw [List.mem_singleton.1 hx]; exact Nat.ne_of_gt qu) (nine q0 y0 (.slice a0 l0 c0)) (0 + k * 9) HM
    have rf := T8.te.1
    obtain ⟨u0, e0⟩ := row_some rf (o := 0 + k * 9) (by omega)
    obtain ⟨u1, e1⟩ := row_some rf (o := 0 + k * 9 + 1) (by omega)
    obtain ⟨u2, e2⟩ := row_some rf (o := 0 + k * 9 + 2) (by omega)
    obtain ⟨u3, e3⟩ := row_some rf (o := 0 + k * 9 + 3) (by omega)
    obtain ⟨u4, e4⟩ := row_some rf (o := 0 + k * 9 + 4) (by omega)
    obtain ⟨u5, e5⟩ := row_some rf (o := 0 + k * 9 + 5) (by omega)
    obtain ⟨u6, e6⟩ := row_some rf (o := 0 + k * 9 + 6) (by omega)
    obtain ⟨u7, e7⟩ := row_some rf (o := 0 + k * 9 + 7) (by omega)
    obtain ⟨u8, e8⟩ := row_some rf (o := 0 + k * 9 + 8) (by omega)
    refine sx_storeP (i := 10) (by kernel_rfl) (by rfl) rfl rfl (o_storeC9 (F.ev rfl) (F.ev rfl) e0 e1 e2 e3 e4 e5 e6 e7 e8 (row_frozen rf)) hM_ ?_
    have S8 := turn_1 (q := q0) (y := y0) (s := .slice a0 l0 c0) hkl T8
    clear HM rf e0 e1 e2 e3 e4 e5 e6 e7 e8 T8 T7 HBW
    have HM := hM_
    clear hM_
    generalize puts w8 g2 (0 + k * 9) (nine q0 y0 (.slice a0 l0 c0)) = w8b at *
    refine sx_done (by kernel_rfl) ?_ _
    repeat (first | refine ex_then ?_ | refine ex_block ?_ | refine wp_seq ?_ | refine wp_block ?_ | refine wp_skip ?_)
    try simp only [List.append_eq, List.cons_append, List.nil_append]
    refine sx_drawnS (S := fun w' => Mem w5.heap.size w7 w' [(gu, 27, rcs N Y ((.slice (some ⟨g2, 0, none⟩) ps.length (ps.length + 1))))]) [⟨0, 72, [], .val (.pointer (some ⟨gu, 8, none⟩)), true⟩,
      ⟨1, 73, [0], .val (.slice (some ⟨g2, 0, none⟩) ps.length (ps.length + 1)), true⟩,
      ⟨2, 74, [1], .val (.int .i64 (k : Nat)), true⟩,
      ⟨3, 75, [2], .val (.int .i64 ((k - 1 : Nat) : Int)), true⟩,
      ⟨4, 76, [3], .val (.pointer (some ⟨gr, 8, none⟩)), true⟩,
      ⟨5, 77, [4], .val (.slice (some ⟨gp, op, none⟩) ps.length cap), true⟩,
      ⟨6, 78, [5], .val (.int .i64 (k : Nat)), true⟩,
      ⟨7, 79, [5, 6], .val (.pointer (some ⟨gp, op + k * 9, none⟩)), true⟩,
      ⟨8, 80, [7], .val (rv q1 y1 ((.slice a1 l1 c1))), true⟩,
      ⟨9, 81, [1, 3, 8], .val (.pointer (some ⟨g2, 0 + (k - 1) * 9, none⟩)), true⟩] 1 F HM (fun _ h => h) (by kernel_rfl) (by rfl) (by rfl) ?_ ?_ ?_ ?_ ?_ ?_ ?_
    · kernel_rfl
    · exact of_decide_eq_true (by kernel_rfl)
    · exact all_cons ⟨_, by rfl, by rfl⟩ (all_cons ⟨_, by rfl, by rfl⟩ (all_cons ⟨_, by rfl, by rfl⟩ (all_cons ⟨_, by rfl, by rfl⟩ (all_cons ⟨_, by rfl, by rfl⟩ (all_cons ⟨_, by rfl, by rfl⟩ (all_cons ⟨_, by rfl, by rfl⟩ (all_cons ⟨_, by rfl, by rfl⟩ (all_cons ⟨_, by rfl, by rfl⟩ (all_cons ⟨_, by rfl, by rfl⟩ (all_nil))))))))))
    · kernel_rfl
    · refine all_cons ?_ (all_cons ?_ (all_cons ?_ (all_cons ?_ (all_cons ?_ (all_cons ?_ (all_cons ?_ (all_cons ?_ (all_cons ?_ (all_cons ?_ (all_nil))))))))))
      · exact coreS _ _ _ _ _ _ _ (by rfl) (by rfl) (wants_none) (fun ρ w kn hs => o_fieldR2 (kn _ _ (F.old (by rfl) rfl)))
      · exact coreS _ _ _ _ _ _ _ (by rfl) (by rfl) (wants_none) (fun ρ w kn hs => o_loadRP (kn _ _ (known_core 0 72 _ _ (of_decide_eq_true (by rfl)) (by rfl) (by rfl) (by rfl))) (hs.get 0 rfl))
      · exact coreS _ _ _ _ _ _ _ (by rfl) (by rfl) (wants_none) (fun ρ w kn hs => o_move (kn _ _ (F.old (by rfl) rfl)))
      · exact coreS _ _ _ _ _ _ _ (by rfl) (by rfl) (wants_none) (fun ρ w kn hs => o_subI (m := k) (k := 1) (by omega) (by omega) (kn _ _ (known_core 2 74 _ _ (of_decide_eq_true (by rfl)) (by rfl) (by rfl) (by rfl))) (kn _ _ (known_const _)))
      · exact coreS _ _ _ _ _ _ _ (by rfl) (by rfl) (wants_none) (fun ρ w kn hs => o_fieldR2 (kn _ _ (F.old (by rfl) rfl)))
      · exact coreS _ _ _ _ _ _ _ (by rfl) (by rfl) (wants_none) (fun ρ w kn hs => o_loadRP (kn _ _ (known_core 4 76 _ _ (of_decide_eq_true (by rfl)) (by rfl) (by rfl) (by rfl))) (Hr.low qr hs.bel))
      · exact coreS _ _ _ _ _ _ _ (by rfl) (by rfl) (wants_none) (fun ρ w kn hs => o_move (kn _ _ (F.old (by rfl) rfl)))
      · exact coreS _ _ _ _ _ _ _ (by rfl) (by rfl) (wants_none) (fun ρ w kn hs => o_idxR (i := k) (l := ps.length) (by omega) (kn _ _ (known_core 5 77 _ _ (of_decide_eq_true (by rfl)) (by rfl) (by rfl) (by rfl))) (kn _ _ (known_core 6 78 _ _ (of_decide_eq_true (by rfl)) (by rfl) (by rfl) (by rfl))))
      · exact coreS _ _ _ _ _ _ _ (by rfl) (by rfl) (wants_none) (fun ρ w kn hs => o_loadC9 (kn _ _ (known_core 7 79 _ _ (of_decide_eq_true (by rfl)) (by rfl) (by rfl) (by rfl))) (ck _ (HB7.trans (hs.bel.mono le05))))
      · exact coreS _ _ _ _ _ _ _ (by rfl) (by rfl) (wants_none) (fun ρ w kn hs => o_idxR (i := (k - 1)) (l := ps.length) (by omega) (kn _ _ (known_core 1 73 _ _ (of_decide_eq_true (by rfl)) (by rfl) (by rfl) (by rfl))) (kn _ _ (known_core 3 75 _ _ (of_decide_eq_true (by rfl)) (by rfl) (by rfl) (by rfl))))
    · refine all_cons ?_ (all_cons ?_ (all_cons ?_ (all_cons ?_ (all_cons ?_ (all_cons ?_ (all_cons ?_ (all_cons ?_ (all_cons ?_ (all_cons ?_ (all_nil))))))))))
      · exact core_stepAs _ (by rfl)
      · exact core_stepAs _ (by rfl)
      · exact core_stepAs _ (by rfl)
      · exact core_stepAs _ (by rfl)
      · exact core_stepAs _ (by rfl)
      · exact core_stepAs _ (by rfl)
      · exact core_stepAs _ (by rfl)
      · exact core_stepAs _ (by rfl)
      · exact core_stepAs _ (by rfl)
      · exact core_stepAs _ (by rfl)
    intro gs rs a wC hgs hrs F HM HBW
    obtain rfl := nl0 rs hrs
    clear hrs
    obtain rfl := nl0 gs hgs
    clear hgs
    have S9 := S8.on HBW
    have hM_ := mem_putsFar hg2 (fun x hx => by rw [List.mem_singleton.1 hx]; exact Nat.ne_of_gt qu) (nine q1 y1 (.slice a1 l1 c1)) (0 + (k - 1) * 9) HM
    have rf := (show ∃ cur, At wC g2 27 cur ∧ cur.size = (ps.length + 1) * 9 from by obtain ⟨⟨cur, h1, h2, _⟩, _⟩ := S9; exact ⟨cur, h1, h2⟩)
    obtain ⟨u0, e0⟩ := row_some rf (o := 0 + (k - 1) * 9) (by omega)
    obtain ⟨u1, e1⟩ := row_some rf (o := 0 + (k - 1) * 9 + 1) (by omega)
    obtain ⟨u2, e2⟩ := row_some rf (o := 0 + (k - 1) * 9 + 2) (by omega)
    obtain ⟨u3, e3⟩ := row_some rf (o := 0 + (k - 1) * 9 + 3) (by omega)
    obtain ⟨u4, e4⟩ := row_some rf (o := 0 + (k - 1) * 9 + 4) (by omega)
    obtain ⟨u5, e5⟩ := row_some rf (o := 0 + (k - 1) * 9 + 5) (by omega)
    obtain ⟨u6, e6⟩ := row_some rf (o := 0 + (k - 1) * 9 + 6) (by omega)
    obtain ⟨u7, e7⟩ := row_some rf (o := 0 + (k - 1) * 9 + 7) (by omega)
    obtain ⟨u8, e8⟩ := row_some rf (o := 0 + (k - 1) * 9 + 8) (by omega)
    refine sx_storeP (i := 10) (by kernel_rfl) (by rfl) rfl rfl (o_storeC9 (F.ev rfl) (F.ev rfl) e0 e1 e2 e3 e4 e5 e6 e7 e8 (row_frozen rf)) hM_ ?_
    have HB9 := HB7.trans (hM_.bel.mono le05)
    have hTU := turn_2 hk0 hkl (by omega) hLL hall cj9 ck9 S9 HB9
    clear HM rf e0 e1 e2 e3 e4 e5 e6 e7 e8 S9 S8 HBW
    have HM := hM_
    clear hM_
    generalize puts wC g2 (0 + (k - 1) * 9) (nine q1 y1 (.slice a1 l1 c1)) = w9 at *
    refine sx_done (by kernel_rfl) ?_ _
    have B59 := B57.trans HM.bel
    replace hST := hST.on B59; replace Hr := Hr.low qr HM.bel; replace Ht := Ht.low qt HM.bel
    have Hu := HM.get 0 rfl
    clear HM
    have hS9 := hs0.on HB9
    have k1 := fun (u : World) (hu : Below w9.heap.size w9 u) => (show Calls Try.prog 11 #[rv N Y (.slice (some ⟨gv, 0, none⟩) (ps.length + 1) cv)] u fun e w2 => e = .returned (.bool false) ∧ Below u.heap.size u w2 from by have := check_any (.mk N Y (twiceL ps k ps[k])) _ cv hN hY u (hST.on hu); rw [twice_no hkl] at this; simp only [Rsn.n, Rsn.w, Rsn.ps, twiceL_len hkl] at this; exact this)
    have k2 := fun (u : World) (hu : Below w9.heap.size w9 u) => (show Calls Try.prog 11 #[rv N Y (.slice (some ⟨g2, 0, none⟩) ps.length (ps.length + 1))] u fun e w2 => e = .returned (.bool false) ∧ Below u.heap.size u w2 from by have := check_any (.mk N Y (turnL ps k (ps[k - 1]'(by omega)) ps[k])) _ (ps.length + 1) hN hY u (hTU.on hu); rw [turn_no hk0 hkl hh] at this; simp only [Rsn.n, Rsn.w, Rsn.ps, turnL, List.length_set] at this; exact this)
    have k3 := fun (u : World) (hu : Below w9.heap.size w9 u) => (show Calls Try.prog 11 #[rv N 0 (.slice (some ⟨gp, op, none⟩) ps.length cap)] u fun e w2 => e = .returned (.bool false) ∧ Below u.heap.size u w2 from by have := check_any (.mk N 0 ps) _ cap hN (by show 0 < 2 ^ 256; first | exact hN | decide) u (hS9.on hu); rw [wit_no (Y := Y) hne (Or.inl (by omega))] at this; exact this)
    have k4 := fun (u : World) (hu : Below w9.heap.size w9 u) => (show Calls Try.prog 11 #[rv N 1 (.slice (some ⟨gp, op, none⟩) ps.length cap)] u fun e w2 => e = .returned (.bool false) ∧ Below u.heap.size u w2 from by have := check_any (.mk N 1 ps) _ cap hN (by show 1 < 2 ^ 256; first | exact hN | decide) u (hS9.on hu); rw [wit_no (Y := Y) hne (Or.inl (by omega))] at this; exact this)
    have k5 := fun (u : World) (hu : Below w9.heap.size w9 u) => (show Calls Try.prog 11 #[rv N N (.slice (some ⟨gp, op, none⟩) ps.length cap)] u fun e w2 => e = .returned (.bool false) ∧ Below u.heap.size u w2 from by have := check_any (.mk N N ps) _ cap hN (by show N < 2 ^ 256; first | exact hN | decide) u (hS9.on hu); rw [wit_no (Y := Y) hne (Or.inr (Nat.le_refl _))] at this; exact this)
    have HM := Mem.start w9
    repeat (first | refine ex_then ?_ | refine ex_block ?_ | refine wp_seq ?_ | refine wp_block ?_ | refine wp_skip ?_)
    refine wp_region_lit ?_
    refine lx_value (v := rv N Y ((.slice (some ⟨gp, op, none⟩) ps.length cap))) F (wanted_none rfl _) rfl (by rfl) (o_loadR (F.ev rfl) (Hr.on HM.bel)) fun a F => ?_
    refine lx_new F HM (wanted_none rfl _) rfl (by rfl) (o_allocR) fun a w gn F HM => ?_
    refine lx_store F HM (wanted_none rfl _) rfl (k := 0) rfl (o_storeR (F.ev rfl) (F.ev rfl) (HM.get 0 rfl) rfl) (M2 := [(gn, 27, rcs N Y ((.slice (some ⟨gp, op, none⟩) ps.length cap)))]) (by rw [sets9]; rfl) fun w HM => ?_
    refine lx_nil ?_
    repeat (first | refine ex_then ?_ | refine ex_block ?_ | refine wp_seq ?_ | refine wp_block ?_ | refine wp_skip ?_)
    refine wp_region_lit ?_
    refine lx_call F (wanted_none rfl _) rfl (by rfl) (run_callF Try.func13 (by kernel_rfl) (by rfl) (.cons rfl .nil) _) ((fun w => ofP_any 0 (by decide) w) _) fun a w z F => ?_
    replace HM := HM.on z
    clear z
    refine lx_value (v := .pointer (some ⟨gn, 4, none⟩)) F (wanted_none rfl _) rfl (by rfl) (o_fieldR1 (F.ev rfl)) fun a F => ?_
    refine lx_store F HM (wanted_none rfl _) rfl (k := 0) rfl (o_storeRW (F.ev rfl) (F.ev rfl) (HM.get 0 rfl)) (M2 := [(gn, 27, rcs N 0 ((.slice (some ⟨gp, op, none⟩) ps.length cap)))]) (by rw [sets4]; rfl) fun w HM => ?_
    refine lx_nil ?_
    repeat (first | refine ex_then ?_ | refine ex_block ?_ | refine wp_seq ?_ | refine wp_block ?_ | refine wp_skip ?_)
    refine wp_region_lit ?_
    refine lx_value (v := rv N Y ((.slice (some ⟨gp, op, none⟩) ps.length cap))) F (wanted_none rfl _) rfl (by rfl) (o_loadR (F.ev rfl) (Hr.on HM.bel)) fun a F => ?_
    refine lx_new F HM (wanted_none rfl _) rfl (by rfl) (o_allocR) fun a w go F HM => ?_
    refine lx_store F HM (wanted_none rfl _) rfl (k := 0) rfl (o_storeR (F.ev rfl) (F.ev rfl) (HM.get 0 rfl) rfl) (M2 := [(go, 27, rcs N Y ((.slice (some ⟨gp, op, none⟩) ps.length cap))), (gn, 27, rcs N 0 ((.slice (some ⟨gp, op, none⟩) ps.length cap)))]) (by rw [sets9]; rfl) fun w HM => ?_
    refine lx_nil ?_
    repeat (first | refine ex_then ?_ | refine ex_block ?_ | refine wp_seq ?_ | refine wp_block ?_ | refine wp_skip ?_)
    refine wp_region_lit ?_
    refine lx_call F (wanted_none rfl _) rfl (by rfl) (run_callF Try.func13 (by kernel_rfl) (by rfl) (.cons rfl .nil) _) ((fun w => ofP_any 1 (by decide) w) _) fun a w z F => ?_
    replace HM := HM.on z
    clear z
    refine lx_value (v := .pointer (some ⟨go, 4, none⟩)) F (wanted_none rfl _) rfl (by rfl) (o_fieldR1 (F.ev rfl)) fun a F => ?_
    refine lx_store F HM (wanted_none rfl _) rfl (k := 0) rfl (o_storeRW (F.ev rfl) (F.ev rfl) (HM.get 0 rfl)) (M2 := [(go, 27, rcs N 1 ((.slice (some ⟨gp, op, none⟩) ps.length cap))), (gn, 27, rcs N 0 ((.slice (some ⟨gp, op, none⟩) ps.length cap)))]) (by rw [sets4]; rfl) fun w HM => ?_
    refine lx_nil ?_
    repeat (first | refine ex_then ?_ | refine ex_block ?_ | refine wp_seq ?_ | refine wp_block ?_ | refine wp_skip ?_)
    refine wp_region_lit ?_
    refine lx_value (v := rv N Y ((.slice (some ⟨gp, op, none⟩) ps.length cap))) F (wanted_none rfl _) rfl (by rfl) (o_loadR (F.ev rfl) (Hr.on HM.bel)) fun a F => ?_
    refine lx_new F HM (wanted_none rfl _) rfl (by rfl) (o_allocR) fun a w gx F HM => ?_
    refine lx_store F HM (wanted_none rfl _) rfl (k := 0) rfl (o_storeR (F.ev rfl) (F.ev rfl) (HM.get 0 rfl) rfl) (M2 := [(gx, 27, rcs N Y ((.slice (some ⟨gp, op, none⟩) ps.length cap))), (go, 27, rcs N 1 ((.slice (some ⟨gp, op, none⟩) ps.length cap))), (gn, 27, rcs N 0 ((.slice (some ⟨gp, op, none⟩) ps.length cap)))]) (by rw [sets9]; rfl) fun w HM => ?_
    refine lx_nil ?_
    repeat (first | refine ex_then ?_ | refine ex_block ?_ | refine wp_seq ?_ | refine wp_block ?_ | refine wp_skip ?_)
    refine wp_region_lit ?_
    refine lx_value (v := .pointer (some ⟨gr, 0, none⟩)) F (wanted_none rfl _) rfl (by rfl) (o_fieldR0 (F.ev rfl)) fun a F => ?_
    refine lx_value (v := num N) F (wanted_none rfl _) rfl (by rfl) (o_loadR0 (F.ev rfl) (Hr.on HM.bel)) fun a F => ?_
    refine lx_value (v := .pointer (some ⟨gx, 4, none⟩)) F (wanted_none rfl _) rfl (by rfl) (o_fieldR1 (F.ev rfl)) fun a F => ?_
    refine lx_store F HM (wanted_none rfl _) rfl (k := 0) rfl (o_storeRW (F.ev rfl) (F.ev rfl) (HM.get 0 rfl)) (M2 := [(gx, 27, rcs N N ((.slice (some ⟨gp, op, none⟩) ps.length cap))), (go, 27, rcs N 1 ((.slice (some ⟨gp, op, none⟩) ps.length cap))), (gn, 27, rcs N 0 ((.slice (some ⟨gp, op, none⟩) ps.length cap)))]) (by rw [sets4]; rfl) fun w HM => ?_
    refine lx_nil ?_
    repeat (first | refine ex_then ?_ | refine ex_block ?_ | refine wp_seq ?_ | refine wp_block ?_ | refine wp_skip ?_)
    refine wp_region_lit ?_
    refine lx_value (v := rv N Y ((.slice (some ⟨gv, 0, none⟩) (ps.length + 1) cv))) F (wanted_none rfl _) rfl (by rfl) (o_loadR (F.ev rfl) (Ht.on HM.bel)) fun a F => ?_
    refine lx_call F (wanted_none rfl _) rfl (by rfl) (run_callF Try.func11 (by kernel_rfl) (by rfl) (.cons (F.ev rfl) .nil) _) (k1 _ HM.bel) fun a w z F => ?_
    replace HM := HM.on z
    clear z
    refine lx_value (v := .bool true) F (wanted_none rfl _) rfl (by rfl) (o_not (b := false) (r := true) (F.ev rfl) rfl) fun a F => ?_
    refine lx_value (v := .bool true) F (wanted_none rfl _) rfl (by rfl) (o_move (F.ev rfl)) fun a F => ?_
    refine lx_value (v := rv N Y ((.slice (some ⟨g2, 0, none⟩) ps.length (ps.length + 1)))) F (F.want (t := 95) (c := true) rfl rfl rfl (by rfl) rfl) rfl (by rfl) (o_loadR (F.ev rfl) (Hu.on HM.bel)) fun a F => ?_
    refine lx_call F (F.want (t := 95) (c := true) rfl rfl rfl (by rfl) rfl) rfl (by rfl) (run_callF Try.func11 (by kernel_rfl) (by rfl) (.cons (F.ev rfl) .nil) _) (k2 _ HM.bel) fun a w z F => ?_
    replace HM := HM.on z
    clear z
    refine lx_value (v := .int .i64 (k : Nat)) F (F.want (t := 95) (c := true) rfl rfl rfl (by rfl) rfl) rfl (by rfl) (o_move (F.ev rfl)) fun a F => ?_
    refine lx_value (v := .bool false) F (F.want (t := 95) (c := true) rfl rfl rfl (by rfl) rfl) rfl (by rfl) (o_bin (u := .int .i64 (k : Nat)) (v := .int .i64 0) (fun ρ hx hy => by simp only [execOp, hx, hy]; simp [go_sem]; omega) (F.ev rfl) rfl) fun a F => ?_
    refine lx_value (v := .bool true) F (F.want (t := 95) (c := true) rfl rfl rfl (by rfl) rfl) rfl (by rfl) (o_bin (u := .bool false) (v := .bool false) (fun ρ hx hy => by simp only [execOp, hx, hy]; simp [go_sem]) (F.ev rfl) (F.ev rfl)) fun a F => ?_
    refine lx_value (v := .bool true) F (wanted_none rfl _) rfl (by rfl) (o_pick (b := true) (r := .bool true) (F.ev rfl) (F.ev rfl) rfl rfl) fun a F => ?_
    refine lx_value (v := .bool true) F (wanted_none rfl _) rfl (by rfl) (o_move (F.ev rfl)) fun a F => ?_
    refine lx_value (v := rv N 0 ((.slice (some ⟨gp, op, none⟩) ps.length cap))) F (F.want (t := 102) (c := true) rfl rfl rfl (by rfl) rfl) rfl (by rfl) (o_loadR (F.ev rfl) (HM.get 2 rfl)) fun a F => ?_
    refine lx_call F (F.want (t := 102) (c := true) rfl rfl rfl (by rfl) rfl) rfl (by rfl) (run_callF Try.func11 (by kernel_rfl) (by rfl) (.cons (F.ev rfl) .nil) _) (k3 _ HM.bel) fun a w z F => ?_
    replace HM := HM.on z
    clear z
    refine lx_value (v := .bool true) F (F.want (t := 102) (c := true) rfl rfl rfl (by rfl) rfl) rfl (by rfl) (o_not (b := false) (r := true) (F.ev rfl) rfl) fun a F => ?_
    refine lx_value (v := .bool true) F (wanted_none rfl _) rfl (by rfl) (o_pick (b := true) (r := .bool true) (F.ev rfl) (F.ev rfl) rfl rfl) fun a F => ?_
    refine lx_value (v := .bool true) F (wanted_none rfl _) rfl (by rfl) (o_move (F.ev rfl)) fun a F => ?_
    refine lx_value (v := rv N 1 ((.slice (some ⟨gp, op, none⟩) ps.length cap))) F (F.want (t := 107) (c := true) rfl rfl rfl (by rfl) rfl) rfl (by rfl) (o_loadR (F.ev rfl) (HM.get 1 rfl)) fun a F => ?_
    refine lx_call F (F.want (t := 107) (c := true) rfl rfl rfl (by rfl) rfl) rfl (by rfl) (run_callF Try.func11 (by kernel_rfl) (by rfl) (.cons (F.ev rfl) .nil) _) (k4 _ HM.bel) fun a w z F => ?_
    replace HM := HM.on z
    clear z
    refine lx_value (v := .bool true) F (F.want (t := 107) (c := true) rfl rfl rfl (by rfl) rfl) rfl (by rfl) (o_not (b := false) (r := true) (F.ev rfl) rfl) fun a F => ?_
    refine lx_value (v := .bool true) F (wanted_none rfl _) rfl (by rfl) (o_pick (b := true) (r := .bool true) (F.ev rfl) (F.ev rfl) rfl rfl) fun a F => ?_
    refine lx_value (v := .bool true) F (wanted_none rfl _) rfl (by rfl) (o_move (F.ev rfl)) fun a F => ?_
    refine lx_value (v := rv N N ((.slice (some ⟨gp, op, none⟩) ps.length cap))) F (F.want (t := 112) (c := true) rfl rfl rfl (by rfl) rfl) rfl (by rfl) (o_loadR (F.ev rfl) (HM.get 0 rfl)) fun a F => ?_
    refine lx_call F (F.want (t := 112) (c := true) rfl rfl rfl (by rfl) rfl) rfl (by rfl) (run_callF Try.func11 (by kernel_rfl) (by rfl) (.cons (F.ev rfl) .nil) _) (k5 _ HM.bel) fun a w z F => ?_
    replace HM := HM.on z
    clear z
    refine lx_value (v := .bool true) F (F.want (t := 112) (c := true) rfl rfl rfl (by rfl) rfl) rfl (by rfl) (o_not (b := false) (r := true) (F.ev rfl) rfl) fun a F => ?_
    refine lx_value (v := .bool true) F (wanted_none rfl _) rfl (by rfl) (o_pick (b := true) (r := .bool true) (F.ev rfl) (F.ev rfl) rfl rfl) fun a F => ?_
    refine lx_value (v := .bool true) F (wanted_none rfl _) rfl (by rfl) (o_assign (F.ev rfl)) fun a F => ?_
    refine lx_nil ?_
    repeat (first | refine ex_then ?_ | refine ex_block ?_ | refine wp_seq ?_ | refine wp_block ?_ | refine wp_skip ?_)
    refine wp_ret ?_
    repeat (first | refine ex_thenR ?_ | refine ex_blockR ?_)
    exact bodyPost_ret (res_tmp F rfl (s := 4) rfl) F.defers ⟨rfl, HB9.trans (HM.bel.mono HB9.size)⟩
  · repeat (first | refine ex_then ?_ | refine ex_block ?_ | refine wp_seq ?_ | refine wp_block ?_ | refine wp_skip ?_)
    refine wp_region_lit ?_
    refine lx_value (v := .int .i64 (k : Nat)) F (wanted_none rfl _) rfl (by rfl) (o_move (F.ev rfl)) fun a F => ?_
    refine lx_value (v := .bool false) F (wanted_none rfl _) rfl (by rfl) (o_bin (u := .int .i64 (k : Nat)) (v := .int .i64 0) (fun ρ hx hy => by simp only [execOp, hx, hy]; simp [go_sem]; omega) (F.ev rfl) rfl) fun a F => ?_
    refine lx_nil ?_
    repeat (first | refine ex_then ?_ | refine ex_block ?_ | refine wp_seq ?_ | refine wp_block ?_ | refine wp_skip ?_)
    refine wp_cond_false (F.ev rfl) ?_
    obtain ⟨w9, hw9⟩ : ∃ w9, w9 = w := ⟨_, rfl⟩
    rw [← hw9] at HM ⊢
    clear hw9
    have HB9 := HB6.trans (HM.bel.mono HB6.size)
    replace Hr := Hr.on HM.bel; replace Ht := Ht.on HM.bel; replace hST := (hST.on B56).on HM.bel
    have T9 := T2.on HM.bel
    have Hu := HM.get 0 rfl
    clear HM T2
    have hS9 := hs0.on HB9
    have k1 := fun (u : World) (hu : Below w9.heap.size w9 u) => (show Calls Try.prog 11 #[rv N Y (.slice (some ⟨gv, 0, none⟩) (ps.length + 1) cv)] u fun e w2 => e = .returned (.bool false) ∧ Below u.heap.size u w2 from by have := check_any (.mk N Y (twiceL ps k ps[k])) _ cv hN hY u (hST.on hu); rw [twice_no hkl] at this; simp only [Rsn.n, Rsn.w, Rsn.ps, twiceL_len hkl] at this; exact this)
    have k2 := fun (u : World) (hu : Below w9.heap.size w9 u) => (show Calls Try.prog 11 #[rv N Y (.slice (some ⟨g2, 0, none⟩) ps.length (ps.length + 1))] u fun e w2 => e = .returned (.bool true) ∧ Below u.heap.size u w2 from by have := check_any (.mk N Y ps) _ (ps.length + 1) hN hY u ((T9.tw.1.sl (by omega) hLL).on hu); rw [hh] at this; exact this)
    have k3 := fun (u : World) (hu : Below w9.heap.size w9 u) => (show Calls Try.prog 11 #[rv N 0 (.slice (some ⟨gp, op, none⟩) ps.length cap)] u fun e w2 => e = .returned (.bool false) ∧ Below u.heap.size u w2 from by have := check_any (.mk N 0 ps) _ cap hN (by show 0 < 2 ^ 256; first | exact hN | decide) u (hS9.on hu); rw [wit_no (Y := Y) hne (Or.inl (by omega))] at this; exact this)
    have k4 := fun (u : World) (hu : Below w9.heap.size w9 u) => (show Calls Try.prog 11 #[rv N 1 (.slice (some ⟨gp, op, none⟩) ps.length cap)] u fun e w2 => e = .returned (.bool false) ∧ Below u.heap.size u w2 from by have := check_any (.mk N 1 ps) _ cap hN (by show 1 < 2 ^ 256; first | exact hN | decide) u (hS9.on hu); rw [wit_no (Y := Y) hne (Or.inl (by omega))] at this; exact this)
    have k5 := fun (u : World) (hu : Below w9.heap.size w9 u) => (show Calls Try.prog 11 #[rv N N (.slice (some ⟨gp, op, none⟩) ps.length cap)] u fun e w2 => e = .returned (.bool false) ∧ Below u.heap.size u w2 from by have := check_any (.mk N N ps) _ cap hN (by show N < 2 ^ 256; first | exact hN | decide) u (hS9.on hu); rw [wit_no (Y := Y) hne (Or.inr (Nat.le_refl _))] at this; exact this)
    have HM := Mem.start w9
    repeat (first | refine ex_then ?_ | refine ex_block ?_ | refine wp_seq ?_ | refine wp_block ?_ | refine wp_skip ?_)
    refine wp_region_lit ?_
    refine lx_value (v := rv N Y ((.slice (some ⟨gp, op, none⟩) ps.length cap))) F (wanted_none rfl _) rfl (by rfl) (o_loadR (F.ev rfl) (Hr.on HM.bel)) fun a F => ?_
    refine lx_new F HM (wanted_none rfl _) rfl (by rfl) (o_allocR) fun a w gn F HM => ?_
    refine lx_store F HM (wanted_none rfl _) rfl (k := 0) rfl (o_storeR (F.ev rfl) (F.ev rfl) (HM.get 0 rfl) rfl) (M2 := [(gn, 27, rcs N Y ((.slice (some ⟨gp, op, none⟩) ps.length cap)))]) (by rw [sets9]; rfl) fun w HM => ?_
    refine lx_nil ?_
    repeat (first | refine ex_then ?_ | refine ex_block ?_ | refine wp_seq ?_ | refine wp_block ?_ | refine wp_skip ?_)
    refine wp_region_lit ?_
    refine lx_call F (wanted_none rfl _) rfl (by rfl) (run_callF Try.func13 (by kernel_rfl) (by rfl) (.cons rfl .nil) _) ((fun w => ofP_any 0 (by decide) w) _) fun a w z F => ?_
    replace HM := HM.on z
    clear z
    refine lx_value (v := .pointer (some ⟨gn, 4, none⟩)) F (wanted_none rfl _) rfl (by rfl) (o_fieldR1 (F.ev rfl)) fun a F => ?_
    refine lx_store F HM (wanted_none rfl _) rfl (k := 0) rfl (o_storeRW (F.ev rfl) (F.ev rfl) (HM.get 0 rfl)) (M2 := [(gn, 27, rcs N 0 ((.slice (some ⟨gp, op, none⟩) ps.length cap)))]) (by rw [sets4]; rfl) fun w HM => ?_
    refine lx_nil ?_
    repeat (first | refine ex_then ?_ | refine ex_block ?_ | refine wp_seq ?_ | refine wp_block ?_ | refine wp_skip ?_)
    refine wp_region_lit ?_
    refine lx_value (v := rv N Y ((.slice (some ⟨gp, op, none⟩) ps.length cap))) F (wanted_none rfl _) rfl (by rfl) (o_loadR (F.ev rfl) (Hr.on HM.bel)) fun a F => ?_
    refine lx_new F HM (wanted_none rfl _) rfl (by rfl) (o_allocR) fun a w go F HM => ?_
    refine lx_store F HM (wanted_none rfl _) rfl (k := 0) rfl (o_storeR (F.ev rfl) (F.ev rfl) (HM.get 0 rfl) rfl) (M2 := [(go, 27, rcs N Y ((.slice (some ⟨gp, op, none⟩) ps.length cap))), (gn, 27, rcs N 0 ((.slice (some ⟨gp, op, none⟩) ps.length cap)))]) (by rw [sets9]; rfl) fun w HM => ?_
    refine lx_nil ?_
    repeat (first | refine ex_then ?_ | refine ex_block ?_ | refine wp_seq ?_ | refine wp_block ?_ | refine wp_skip ?_)
    refine wp_region_lit ?_
    refine lx_call F (wanted_none rfl _) rfl (by rfl) (run_callF Try.func13 (by kernel_rfl) (by rfl) (.cons rfl .nil) _) ((fun w => ofP_any 1 (by decide) w) _) fun a w z F => ?_
    replace HM := HM.on z
    clear z
    refine lx_value (v := .pointer (some ⟨go, 4, none⟩)) F (wanted_none rfl _) rfl (by rfl) (o_fieldR1 (F.ev rfl)) fun a F => ?_
    refine lx_store F HM (wanted_none rfl _) rfl (k := 0) rfl (o_storeRW (F.ev rfl) (F.ev rfl) (HM.get 0 rfl)) (M2 := [(go, 27, rcs N 1 ((.slice (some ⟨gp, op, none⟩) ps.length cap))), (gn, 27, rcs N 0 ((.slice (some ⟨gp, op, none⟩) ps.length cap)))]) (by rw [sets4]; rfl) fun w HM => ?_
    refine lx_nil ?_
    repeat (first | refine ex_then ?_ | refine ex_block ?_ | refine wp_seq ?_ | refine wp_block ?_ | refine wp_skip ?_)
    refine wp_region_lit ?_
    refine lx_value (v := rv N Y ((.slice (some ⟨gp, op, none⟩) ps.length cap))) F (wanted_none rfl _) rfl (by rfl) (o_loadR (F.ev rfl) (Hr.on HM.bel)) fun a F => ?_
    refine lx_new F HM (wanted_none rfl _) rfl (by rfl) (o_allocR) fun a w gx F HM => ?_
    refine lx_store F HM (wanted_none rfl _) rfl (k := 0) rfl (o_storeR (F.ev rfl) (F.ev rfl) (HM.get 0 rfl) rfl) (M2 := [(gx, 27, rcs N Y ((.slice (some ⟨gp, op, none⟩) ps.length cap))), (go, 27, rcs N 1 ((.slice (some ⟨gp, op, none⟩) ps.length cap))), (gn, 27, rcs N 0 ((.slice (some ⟨gp, op, none⟩) ps.length cap)))]) (by rw [sets9]; rfl) fun w HM => ?_
    refine lx_nil ?_
    repeat (first | refine ex_then ?_ | refine ex_block ?_ | refine wp_seq ?_ | refine wp_block ?_ | refine wp_skip ?_)
    refine wp_region_lit ?_
    refine lx_value (v := .pointer (some ⟨gr, 0, none⟩)) F (wanted_none rfl _) rfl (by rfl) (o_fieldR0 (F.ev rfl)) fun a F => ?_
    refine lx_value (v := num N) F (wanted_none rfl _) rfl (by rfl) (o_loadR0 (F.ev rfl) (Hr.on HM.bel)) fun a F => ?_
    refine lx_value (v := .pointer (some ⟨gx, 4, none⟩)) F (wanted_none rfl _) rfl (by rfl) (o_fieldR1 (F.ev rfl)) fun a F => ?_
    refine lx_store F HM (wanted_none rfl _) rfl (k := 0) rfl (o_storeRW (F.ev rfl) (F.ev rfl) (HM.get 0 rfl)) (M2 := [(gx, 27, rcs N N ((.slice (some ⟨gp, op, none⟩) ps.length cap))), (go, 27, rcs N 1 ((.slice (some ⟨gp, op, none⟩) ps.length cap))), (gn, 27, rcs N 0 ((.slice (some ⟨gp, op, none⟩) ps.length cap)))]) (by rw [sets4]; rfl) fun w HM => ?_
    refine lx_nil ?_
    repeat (first | refine ex_then ?_ | refine ex_block ?_ | refine wp_seq ?_ | refine wp_block ?_ | refine wp_skip ?_)
    refine wp_region_lit ?_
    refine lx_value (v := rv N Y ((.slice (some ⟨gv, 0, none⟩) (ps.length + 1) cv))) F (wanted_none rfl _) rfl (by rfl) (o_loadR (F.ev rfl) (Ht.on HM.bel)) fun a F => ?_
    refine lx_call F (wanted_none rfl _) rfl (by rfl) (run_callF Try.func11 (by kernel_rfl) (by rfl) (.cons (F.ev rfl) .nil) _) (k1 _ HM.bel) fun a w z F => ?_
    replace HM := HM.on z
    clear z
    refine lx_value (v := .bool true) F (wanted_none rfl _) rfl (by rfl) (o_not (b := false) (r := true) (F.ev rfl) rfl) fun a F => ?_
    refine lx_value (v := .bool true) F (wanted_none rfl _) rfl (by rfl) (o_move (F.ev rfl)) fun a F => ?_
    refine lx_value (v := rv N Y ((.slice (some ⟨g2, 0, none⟩) ps.length (ps.length + 1)))) F (F.want (t := 95) (c := true) rfl rfl rfl (by rfl) rfl) rfl (by rfl) (o_loadR (F.ev rfl) (Hu.on HM.bel)) fun a F => ?_
    refine lx_call F (F.want (t := 95) (c := true) rfl rfl rfl (by rfl) rfl) rfl (by rfl) (run_callF Try.func11 (by kernel_rfl) (by rfl) (.cons (F.ev rfl) .nil) _) (k2 _ HM.bel) fun a w z F => ?_
    replace HM := HM.on z
    clear z
    refine lx_value (v := .int .i64 (k : Nat)) F (F.want (t := 95) (c := true) rfl rfl rfl (by rfl) rfl) rfl (by rfl) (o_move (F.ev rfl)) fun a F => ?_
    refine lx_value (v := .bool true) F (F.want (t := 95) (c := true) rfl rfl rfl (by rfl) rfl) rfl (by rfl) (o_bin (u := .int .i64 (k : Nat)) (v := .int .i64 0) (fun ρ hx hy => by simp only [execOp, hx, hy]; simp [go_sem]; omega) (F.ev rfl) rfl) fun a F => ?_
    refine lx_value (v := .bool true) F (F.want (t := 95) (c := true) rfl rfl rfl (by rfl) rfl) rfl (by rfl) (o_bin (u := .bool true) (v := .bool true) (fun ρ hx hy => by simp only [execOp, hx, hy]; simp [go_sem]) (F.ev rfl) (F.ev rfl)) fun a F => ?_
    refine lx_value (v := .bool true) F (wanted_none rfl _) rfl (by rfl) (o_pick (b := true) (r := .bool true) (F.ev rfl) (F.ev rfl) rfl rfl) fun a F => ?_
    refine lx_value (v := .bool true) F (wanted_none rfl _) rfl (by rfl) (o_move (F.ev rfl)) fun a F => ?_
    refine lx_value (v := rv N 0 ((.slice (some ⟨gp, op, none⟩) ps.length cap))) F (F.want (t := 102) (c := true) rfl rfl rfl (by rfl) rfl) rfl (by rfl) (o_loadR (F.ev rfl) (HM.get 2 rfl)) fun a F => ?_
    refine lx_call F (F.want (t := 102) (c := true) rfl rfl rfl (by rfl) rfl) rfl (by rfl) (run_callF Try.func11 (by kernel_rfl) (by rfl) (.cons (F.ev rfl) .nil) _) (k3 _ HM.bel) fun a w z F => ?_
    replace HM := HM.on z
    clear z
    refine lx_value (v := .bool true) F (F.want (t := 102) (c := true) rfl rfl rfl (by rfl) rfl) rfl (by rfl) (o_not (b := false) (r := true) (F.ev rfl) rfl) fun a F => ?_
    refine lx_value (v := .bool true) F (wanted_none rfl _) rfl (by rfl) (o_pick (b := true) (r := .bool true) (F.ev rfl) (F.ev rfl) rfl rfl) fun a F => ?_
    refine lx_value (v := .bool true) F (wanted_none rfl _) rfl (by rfl) (o_move (F.ev rfl)) fun a F => ?_
    refine lx_value (v := rv N 1 ((.slice (some ⟨gp, op, none⟩) ps.length cap))) F (F.want (t := 107) (c := true) rfl rfl rfl (by rfl) rfl) rfl (by rfl) (o_loadR (F.ev rfl) (HM.get 1 rfl)) fun a F => ?_
    refine lx_call F (F.want (t := 107) (c := true) rfl rfl rfl (by rfl) rfl) rfl (by rfl) (run_callF Try.func11 (by kernel_rfl) (by rfl) (.cons (F.ev rfl) .nil) _) (k4 _ HM.bel) fun a w z F => ?_
    replace HM := HM.on z
    clear z
    refine lx_value (v := .bool true) F (F.want (t := 107) (c := true) rfl rfl rfl (by rfl) rfl) rfl (by rfl) (o_not (b := false) (r := true) (F.ev rfl) rfl) fun a F => ?_
    refine lx_value (v := .bool true) F (wanted_none rfl _) rfl (by rfl) (o_pick (b := true) (r := .bool true) (F.ev rfl) (F.ev rfl) rfl rfl) fun a F => ?_
    refine lx_value (v := .bool true) F (wanted_none rfl _) rfl (by rfl) (o_move (F.ev rfl)) fun a F => ?_
    refine lx_value (v := rv N N ((.slice (some ⟨gp, op, none⟩) ps.length cap))) F (F.want (t := 112) (c := true) rfl rfl rfl (by rfl) rfl) rfl (by rfl) (o_loadR (F.ev rfl) (HM.get 0 rfl)) fun a F => ?_
    refine lx_call F (F.want (t := 112) (c := true) rfl rfl rfl (by rfl) rfl) rfl (by rfl) (run_callF Try.func11 (by kernel_rfl) (by rfl) (.cons (F.ev rfl) .nil) _) (k5 _ HM.bel) fun a w z F => ?_
    replace HM := HM.on z
    clear z
    refine lx_value (v := .bool true) F (F.want (t := 112) (c := true) rfl rfl rfl (by rfl) rfl) rfl (by rfl) (o_not (b := false) (r := true) (F.ev rfl) rfl) fun a F => ?_
    refine lx_value (v := .bool true) F (wanted_none rfl _) rfl (by rfl) (o_pick (b := true) (r := .bool true) (F.ev rfl) (F.ev rfl) rfl rfl) fun a F => ?_
    refine lx_value (v := .bool true) F (wanted_none rfl _) rfl (by rfl) (o_assign (F.ev rfl)) fun a F => ?_
    refine lx_nil ?_
    repeat (first | refine ex_then ?_ | refine ex_block ?_ | refine wp_seq ?_ | refine wp_block ?_ | refine wp_skip ?_)
    refine wp_ret ?_
    repeat (first | refine ex_thenR ?_ | refine ex_blockR ?_)
    exact bodyPost_ret (res_tmp F rfl (s := 4) rfl) F.defers ⟨rfl, HB9.trans (HM.bel.mono HB9.size)⟩
theorem turned_walk (N Y : Nat) (a : Option Addr) (cap : Nat) (ps : List Rsn) (c : Nat) (hN : N < 2 ^ 256) (hY : Y < 2 ^ 256) (hc : c < 256) (w : World) (hs : Sl w a cap ps) : Calls Try.prog 3 #[rv N Y (.slice a ps.length cap), .int .u8 (c : Nat)] w fun e w' => e = .returned (.bool true) ∧ Below w.heap.size w w' := by
  have cz := fun (u : World) (hb : Below w.heap.size w u) => size_any w _ (.mk N Y ps) (Nat.le_refl _) a cap u hN hY hs hb
  have cc := fun (u : World) (hb : Below w.heap.size w u) => check_any (.mk N Y ps) a cap hN hY u (hs.on hb)
  simp only [Rsn.n, Rsn.w, Rsn.ps] at cz cc
  by_cases hz : 20000 < szR (.mk N Y ps)
  · exact turned_1 N Y _ cap c a _ w cz hz
  rcases hh : (Rsn.mk N Y ps).holds with _ | _
  · rw [hh] at cc
    exact turned_2 N Y _ cap c a _ w cz cc hz
  rw [hh] at cc
  by_cases hl : ps.length = 0
  · exact turned_3 N Y _ cap c a _ w cz cc hz hl
  have hne : ps ≠ [] := fun e => hl (by rw [e]; rfl)
  have hlen : ps.length < 32 := Pr.holds_len (r := .mk N Y ps) hh
  have hL : Lens (.mk N Y ps) := lens_cnt _ _ (Nat.le_refl _) (by have := (Pr.holds_ok hh).2; omega)
  obtain ⟨gp, op, rfl, hall⟩ := hs.all hne
  have hcells : ∀ j, j < 9 * ps.length → ∃ v, w.cell? ⟨gp, op + j, none⟩ = some v ∧ v.oneCell' = true := fun j hj => by
    have := (hall (j / 9) (by omega)).some (j % 9) (Nat.mod_lt _ (by decide))
    rwa [show op + 9 * (j / 9) + j % 9 = op + j by omega] at this
  obtain ⟨k, hk⟩ : ∃ k, k = c % ps.length := ⟨_, rfl⟩
  have hkl : k < ps.length := by rw [hk]; exact Nat.mod_lt _ (by omega)
  obtain ⟨q1, y1, a1, l1, c1, ck, ck9⟩ := (hall k hkl).nine9
  obtain ⟨q0, y0, a0, l0, c0, cj, cj9⟩ := (hall (k - 1) (by omega)).nine9
  have cT := fun (u : World) (hb : Below w.heap.size w u) => (twin_any _ (.mk N Y ps) (Nat.le_refl _) hL (some ⟨gp, op, none⟩) cap u hN hY (hs.on hb)).mono (R' := fun e w2 => ∃ v, e = .returned v ∧ (∃ g, v = rv N Y (.slice (some ⟨g, 0, none⟩) ps.length (ps.length + 1)) ∧ u.heap.size ≤ g ∧ TwR w2 g ps) ∧ Below u.heap.size u w2) fun e w2 ⟨g, h1, h2, h3, h4⟩ => ⟨_, h1, ⟨g, rfl, h2, h3⟩, h4⟩
  exact turned_w N Y gp op cap c k _ q1 y1 l1 c1 q0 y0 l0 c0 a1 a0 ps _ w hN hY hc hz hk hkl hlen hs.1 hne hh (lens_iff.mp hL).2 hs hall hcells rfl ck ck9 cj cj9 cz cc cT
end Go.Proofs.Ytodlpmepoakdlaa
