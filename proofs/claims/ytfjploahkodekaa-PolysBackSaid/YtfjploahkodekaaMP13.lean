/-
  PolysBack: walked.
-/
import Derived.Deep.Cut
import Derived.Test.YtfjploahkodekaaMP12
import Derived.Test.YtfjploahkodekaaMShort
namespace Go.Proofs.Ytfjploahkodekaa
set_option maxRecDepth 100000
open Go.RowKit
set_option linter.unusedSimpArgs false
set_option linter.unusedVariables false
attribute [local go_sem ↓] Go.wp_at_zero Go.wp_at_succ

set_option maxRecDepth 100000 in
set_option maxHeartbeats 800000 in
theorem pbk_l1 (P Q G H k capp n cap : Nat) (pp pa : Option Addr) (ps xs : List Nat) (w0 : World) (hQ : Q < 2 ^ 256) (rp : RN w0.heap.size w0 pp k capp ps) (r : RN w0.heap.size w0 pa n cap xs) (hn : 20 < k) : Calls Try.prog 4 #[grp P Q G H, .slice pp k capp, .slice pa n cap] w0 fun e w' => e = .returned (.bool true) ∧ Below w0.heap.size w0 w' := by
  refine sx_enter (args := [grp P Q G H, .slice pp k capp, .slice pa n cap]) Try.func4 rfl Try.ntmps4 (by rfl) fun a F HM => ?_
  repeat (first | refine ex_then ?_ | refine ex_block ?_ | refine wp_seq ?_ | refine wp_block ?_ | refine wp_skip ?_)
  refine wp_region_lit ?_
  refine lx_new F HM (wanted_none rfl _) rfl (by rfl) (o_boxG (F.ev rfl)) fun a w gg F HM => ?_
  refine lx_value (v := .bool false) F (wanted_none rfl _) rfl (by rfl) (o_assign rfl) fun a F => ?_
  refine lx_nil ?_
  repeat (first | refine ex_then ?_ | refine ex_block ?_ | refine wp_seq ?_ | refine wp_block ?_ | refine wp_skip ?_)
  refine wp_region_lit ?_
  refine lx_call F (wanted_none rfl _) rfl (by rfl) (run_callF Try.func7 (by kernel_rfl) (by rfl) .nil _) (alive10_any _) fun a w z F => ?_
  replace HM := HM.on z
  clear z
  refine lx_value (v := .bool false) F (wanted_none rfl _) rfl (by rfl) (o_not (b := true) (r := false) (F.ev rfl) rfl) fun a F => ?_
  refine lx_value (v := .bool false) F (wanted_none rfl _) rfl (by rfl) (o_move (F.ev rfl)) fun a F => ?_
  refine lx_value (v := .slice pp k capp) F (F.want (t := 16) (c := false) rfl rfl rfl (by rfl) rfl) rfl (by rfl) (o_move (F.ev rfl)) fun a F => ?_
  refine lx_value (v := .int .i64 (k : Nat)) F (F.want (t := 16) (c := false) rfl rfl rfl (by rfl) rfl) rfl (by rfl) (o_len (F.ev rfl)) fun a F => ?_
  refine lx_value (v := .bool true) F (F.want (t := 16) (c := false) rfl rfl rfl (by rfl) rfl) rfl (by rfl) (o_bin (u := .int .i64 (k : Nat)) (v := .int .i64 20) (fun ρ hx hy => by simp only [execOp, hx, hy]; simp [go_sem]; omega) (F.ev rfl) rfl) fun a F => ?_
  refine lx_value (v := .bool true) F (wanted_none rfl _) rfl (by rfl) (o_pick (b := false) (r := .bool true) (F.ev rfl) rfl (F.ev rfl) rfl) fun a F => ?_
  refine lx_value (v := .bool true) F (wanted_none rfl _) rfl (by rfl) (o_move (F.ev rfl)) fun a F => ?_
  refine lx_pass F (F.want (t := 21) (c := true) rfl rfl rfl (by rfl) rfl) rfl (by rfl) fun a F => ?_
  refine lx_pass F (F.want (t := 21) (c := true) rfl rfl rfl (by rfl) rfl) rfl (by rfl) fun a F => ?_
  refine lx_pass F (F.want (t := 21) (c := true) rfl rfl rfl (by rfl) rfl) rfl (by rfl) fun a F => ?_
  refine lx_value (v := .bool true) F (wanted_none rfl _) rfl (by rfl) (o_pick (b := true) (r := .bool true) (F.ev rfl) rfl (F.ev rfl) rfl) fun a F => ?_
  refine lx_value (v := .bool true) F (wanted_none rfl _) rfl (by rfl) (o_move (F.ev rfl)) fun a F => ?_
  refine lx_pass F (F.want (t := 26) (c := true) rfl rfl rfl (by rfl) rfl) rfl (by rfl) fun a F => ?_
  refine lx_pass F (F.want (t := 26) (c := true) rfl rfl rfl (by rfl) rfl) rfl (by rfl) fun a F => ?_
  refine lx_pass F (F.want (t := 26) (c := true) rfl rfl rfl (by rfl) rfl) rfl (by rfl) fun a F => ?_
  refine lx_pass F (F.want (t := 26) (c := true) rfl rfl rfl (by rfl) rfl) rfl (by rfl) fun a F => ?_
  refine lx_pass F (F.want (t := 26) (c := true) rfl rfl rfl (by rfl) rfl) rfl (by rfl) fun a F => ?_
  refine lx_value (v := .bool true) F (wanted_none rfl _) rfl (by rfl) (o_pick (b := true) (r := .bool true) (F.ev rfl) rfl (F.ev rfl) rfl) fun a F => ?_
  refine lx_nil ?_
  repeat (first | refine ex_then ?_ | refine ex_block ?_ | refine wp_seq ?_ | refine wp_block ?_ | refine wp_skip ?_)
  refine wp_cond_true (F.ev rfl) ?_
  repeat (first | refine ex_then ?_ | refine ex_block ?_ | refine wp_seq ?_ | refine wp_block ?_ | refine wp_skip ?_)
  refine wp_region_lit ?_
  refine lx_call F (wanted_none rfl _) rfl (by rfl) (run_callF Try.func7 (by kernel_rfl) (by rfl) .nil _) (alive10_any _) fun a w z F => ?_
  replace HM := HM.on z
  clear z
  refine lx_value (v := .bool true) F (wanted_none rfl _) rfl (by rfl) (o_assign (F.ev rfl)) fun a F => ?_
  refine lx_nil ?_
  repeat (first | refine ex_then ?_ | refine ex_block ?_ | refine wp_seq ?_ | refine wp_block ?_ | refine wp_skip ?_)
  refine wp_ret ?_
  repeat (first | refine ex_thenR ?_ | refine ex_blockR ?_)
  exact sx_ret F HM (res_tmp F rfl (s := 6) rfl)

set_option maxRecDepth 100000 in
set_option maxHeartbeats 800000 in
theorem pbk_l2 (P Q G H k capp n cap : Nat) (pp pa : Option Addr) (ps xs : List Nat) (w0 : World) (hQ : Q < 2 ^ 256) (rp : RN w0.heap.size w0 pp k capp ps) (r : RN w0.heap.size w0 pa n cap xs) (hn : ¬ 20 < k) (hm : 20 < n) : Calls Try.prog 4 #[grp P Q G H, .slice pp k capp, .slice pa n cap] w0 fun e w' => e = .returned (.bool true) ∧ Below w0.heap.size w0 w' := by
  refine sx_enter (args := [grp P Q G H, .slice pp k capp, .slice pa n cap]) Try.func4 rfl Try.ntmps4 (by rfl) fun a F HM => ?_
  repeat (first | refine ex_then ?_ | refine ex_block ?_ | refine wp_seq ?_ | refine wp_block ?_ | refine wp_skip ?_)
  refine wp_region_lit ?_
  refine lx_new F HM (wanted_none rfl _) rfl (by rfl) (o_boxG (F.ev rfl)) fun a w gg F HM => ?_
  refine lx_value (v := .bool false) F (wanted_none rfl _) rfl (by rfl) (o_assign rfl) fun a F => ?_
  refine lx_nil ?_
  repeat (first | refine ex_then ?_ | refine ex_block ?_ | refine wp_seq ?_ | refine wp_block ?_ | refine wp_skip ?_)
  refine wp_region_lit ?_
  refine lx_call F (wanted_none rfl _) rfl (by rfl) (run_callF Try.func7 (by kernel_rfl) (by rfl) .nil _) (alive10_any _) fun a w z F => ?_
  replace HM := HM.on z
  clear z
  refine lx_value (v := .bool false) F (wanted_none rfl _) rfl (by rfl) (o_not (b := true) (r := false) (F.ev rfl) rfl) fun a F => ?_
  refine lx_value (v := .bool false) F (wanted_none rfl _) rfl (by rfl) (o_move (F.ev rfl)) fun a F => ?_
  refine lx_value (v := .slice pp k capp) F (F.want (t := 16) (c := false) rfl rfl rfl (by rfl) rfl) rfl (by rfl) (o_move (F.ev rfl)) fun a F => ?_
  refine lx_value (v := .int .i64 (k : Nat)) F (F.want (t := 16) (c := false) rfl rfl rfl (by rfl) rfl) rfl (by rfl) (o_len (F.ev rfl)) fun a F => ?_
  refine lx_value (v := .bool false) F (F.want (t := 16) (c := false) rfl rfl rfl (by rfl) rfl) rfl (by rfl) (o_bin (u := .int .i64 (k : Nat)) (v := .int .i64 20) (fun ρ hx hy => by simp only [execOp, hx, hy]; simp [go_sem]; omega) (F.ev rfl) rfl) fun a F => ?_
  refine lx_value (v := .bool false) F (wanted_none rfl _) rfl (by rfl) (o_pick (b := false) (r := .bool false) (F.ev rfl) rfl (F.ev rfl) rfl) fun a F => ?_
  refine lx_value (v := .bool false) F (wanted_none rfl _) rfl (by rfl) (o_move (F.ev rfl)) fun a F => ?_
  refine lx_value (v := .slice pa n cap) F (F.want (t := 21) (c := false) rfl rfl rfl (by rfl) rfl) rfl (by rfl) (o_move (F.ev rfl)) fun a F => ?_
  refine lx_value (v := .int .i64 (n : Nat)) F (F.want (t := 21) (c := false) rfl rfl rfl (by rfl) rfl) rfl (by rfl) (o_len (F.ev rfl)) fun a F => ?_
  refine lx_value (v := .bool true) F (F.want (t := 21) (c := false) rfl rfl rfl (by rfl) rfl) rfl (by rfl) (o_bin (u := .int .i64 (n : Nat)) (v := .int .i64 20) (fun ρ hx hy => by simp only [execOp, hx, hy]; simp [go_sem]; omega) (F.ev rfl) rfl) fun a F => ?_
  refine lx_value (v := .bool true) F (wanted_none rfl _) rfl (by rfl) (o_pick (b := false) (r := .bool true) (F.ev rfl) rfl (F.ev rfl) rfl) fun a F => ?_
  refine lx_value (v := .bool true) F (wanted_none rfl _) rfl (by rfl) (o_move (F.ev rfl)) fun a F => ?_
  refine lx_pass F (F.want (t := 26) (c := true) rfl rfl rfl (by rfl) rfl) rfl (by rfl) fun a F => ?_
  refine lx_pass F (F.want (t := 26) (c := true) rfl rfl rfl (by rfl) rfl) rfl (by rfl) fun a F => ?_
  refine lx_pass F (F.want (t := 26) (c := true) rfl rfl rfl (by rfl) rfl) rfl (by rfl) fun a F => ?_
  refine lx_pass F (F.want (t := 26) (c := true) rfl rfl rfl (by rfl) rfl) rfl (by rfl) fun a F => ?_
  refine lx_pass F (F.want (t := 26) (c := true) rfl rfl rfl (by rfl) rfl) rfl (by rfl) fun a F => ?_
  refine lx_value (v := .bool true) F (wanted_none rfl _) rfl (by rfl) (o_pick (b := true) (r := .bool true) (F.ev rfl) rfl (F.ev rfl) rfl) fun a F => ?_
  refine lx_nil ?_
  repeat (first | refine ex_then ?_ | refine ex_block ?_ | refine wp_seq ?_ | refine wp_block ?_ | refine wp_skip ?_)
  refine wp_cond_true (F.ev rfl) ?_
  repeat (first | refine ex_then ?_ | refine ex_block ?_ | refine wp_seq ?_ | refine wp_block ?_ | refine wp_skip ?_)
  refine wp_region_lit ?_
  refine lx_call F (wanted_none rfl _) rfl (by rfl) (run_callF Try.func7 (by kernel_rfl) (by rfl) .nil _) (alive10_any _) fun a w z F => ?_
  replace HM := HM.on z
  clear z
  refine lx_value (v := .bool true) F (wanted_none rfl _) rfl (by rfl) (o_assign (F.ev rfl)) fun a F => ?_
  refine lx_nil ?_
  repeat (first | refine ex_then ?_ | refine ex_block ?_ | refine wp_seq ?_ | refine wp_block ?_ | refine wp_skip ?_)
  refine wp_ret ?_
  repeat (first | refine ex_thenR ?_ | refine ex_blockR ?_)
  exact sx_ret F HM (res_tmp F rfl (s := 6) rfl)

set_option maxRecDepth 100000 in
set_option maxHeartbeats 800000 in
theorem pbk_l3 (P Q G H k capp n cap : Nat) (pp pa : Option Addr) (ps xs : List Nat) (w0 : World) (hQ : Q < 2 ^ 256) (rp : RN w0.heap.size w0 pp k capp ps) (r : RN w0.heap.size w0 pa n cap xs) (hn : ¬ 20 < k) (hm : ¬ 20 < n) (hl : n < k) : Calls Try.prog 4 #[grp P Q G H, .slice pp k capp, .slice pa n cap] w0 fun e w' => e = .returned (.bool true) ∧ Below w0.heap.size w0 w' := by
  refine sx_enter (args := [grp P Q G H, .slice pp k capp, .slice pa n cap]) Try.func4 rfl Try.ntmps4 (by rfl) fun a F HM => ?_
  repeat (first | refine ex_then ?_ | refine ex_block ?_ | refine wp_seq ?_ | refine wp_block ?_ | refine wp_skip ?_)
  refine wp_region_lit ?_
  refine lx_new F HM (wanted_none rfl _) rfl (by rfl) (o_boxG (F.ev rfl)) fun a w gg F HM => ?_
  refine lx_value (v := .bool false) F (wanted_none rfl _) rfl (by rfl) (o_assign rfl) fun a F => ?_
  refine lx_nil ?_
  repeat (first | refine ex_then ?_ | refine ex_block ?_ | refine wp_seq ?_ | refine wp_block ?_ | refine wp_skip ?_)
  refine wp_region_lit ?_
  refine lx_call F (wanted_none rfl _) rfl (by rfl) (run_callF Try.func7 (by kernel_rfl) (by rfl) .nil _) (alive10_any _) fun a w z F => ?_
  replace HM := HM.on z
  clear z
  refine lx_value (v := .bool false) F (wanted_none rfl _) rfl (by rfl) (o_not (b := true) (r := false) (F.ev rfl) rfl) fun a F => ?_
  refine lx_value (v := .bool false) F (wanted_none rfl _) rfl (by rfl) (o_move (F.ev rfl)) fun a F => ?_
  refine lx_value (v := .slice pp k capp) F (F.want (t := 16) (c := false) rfl rfl rfl (by rfl) rfl) rfl (by rfl) (o_move (F.ev rfl)) fun a F => ?_
  refine lx_value (v := .int .i64 (k : Nat)) F (F.want (t := 16) (c := false) rfl rfl rfl (by rfl) rfl) rfl (by rfl) (o_len (F.ev rfl)) fun a F => ?_
  refine lx_value (v := .bool false) F (F.want (t := 16) (c := false) rfl rfl rfl (by rfl) rfl) rfl (by rfl) (o_bin (u := .int .i64 (k : Nat)) (v := .int .i64 20) (fun ρ hx hy => by simp only [execOp, hx, hy]; simp [go_sem]; omega) (F.ev rfl) rfl) fun a F => ?_
  refine lx_value (v := .bool false) F (wanted_none rfl _) rfl (by rfl) (o_pick (b := false) (r := .bool false) (F.ev rfl) rfl (F.ev rfl) rfl) fun a F => ?_
  refine lx_value (v := .bool false) F (wanted_none rfl _) rfl (by rfl) (o_move (F.ev rfl)) fun a F => ?_
  refine lx_value (v := .slice pa n cap) F (F.want (t := 21) (c := false) rfl rfl rfl (by rfl) rfl) rfl (by rfl) (o_move (F.ev rfl)) fun a F => ?_
  refine lx_value (v := .int .i64 (n : Nat)) F (F.want (t := 21) (c := false) rfl rfl rfl (by rfl) rfl) rfl (by rfl) (o_len (F.ev rfl)) fun a F => ?_
  refine lx_value (v := .bool false) F (F.want (t := 21) (c := false) rfl rfl rfl (by rfl) rfl) rfl (by rfl) (o_bin (u := .int .i64 (n : Nat)) (v := .int .i64 20) (fun ρ hx hy => by simp only [execOp, hx, hy]; simp [go_sem]; omega) (F.ev rfl) rfl) fun a F => ?_
  refine lx_value (v := .bool false) F (wanted_none rfl _) rfl (by rfl) (o_pick (b := false) (r := .bool false) (F.ev rfl) rfl (F.ev rfl) rfl) fun a F => ?_
  refine lx_value (v := .bool false) F (wanted_none rfl _) rfl (by rfl) (o_move (F.ev rfl)) fun a F => ?_
  refine lx_value (v := .slice pa n cap) F (F.want (t := 26) (c := false) rfl rfl rfl (by rfl) rfl) rfl (by rfl) (o_move (F.ev rfl)) fun a F => ?_
  refine lx_value (v := .int .i64 (n : Nat)) F (F.want (t := 26) (c := false) rfl rfl rfl (by rfl) rfl) rfl (by rfl) (o_len (F.ev rfl)) fun a F => ?_
  refine lx_value (v := .slice pp k capp) F (F.want (t := 26) (c := false) rfl rfl rfl (by rfl) rfl) rfl (by rfl) (o_move (F.ev rfl)) fun a F => ?_
  refine lx_value (v := .int .i64 (k : Nat)) F (F.want (t := 26) (c := false) rfl rfl rfl (by rfl) rfl) rfl (by rfl) (o_len (F.ev rfl)) fun a F => ?_
  refine lx_value (v := .bool true) F (F.want (t := 26) (c := false) rfl rfl rfl (by rfl) rfl) rfl (by rfl) (o_bin (u := .int .i64 (n : Nat)) (v := .int .i64 (k : Nat)) (fun ρ hx hy => by simp only [execOp, hx, hy]; simp [go_sem]; omega) (F.ev rfl) (F.ev rfl)) fun a F => ?_
  refine lx_value (v := .bool true) F (wanted_none rfl _) rfl (by rfl) (o_pick (b := false) (r := .bool true) (F.ev rfl) rfl (F.ev rfl) rfl) fun a F => ?_
  refine lx_nil ?_
  repeat (first | refine ex_then ?_ | refine ex_block ?_ | refine wp_seq ?_ | refine wp_block ?_ | refine wp_skip ?_)
  refine wp_cond_true (F.ev rfl) ?_
  repeat (first | refine ex_then ?_ | refine ex_block ?_ | refine wp_seq ?_ | refine wp_block ?_ | refine wp_skip ?_)
  refine wp_region_lit ?_
  refine lx_call F (wanted_none rfl _) rfl (by rfl) (run_callF Try.func7 (by kernel_rfl) (by rfl) .nil _) (alive10_any _) fun a w z F => ?_
  replace HM := HM.on z
  clear z
  refine lx_value (v := .bool true) F (wanted_none rfl _) rfl (by rfl) (o_assign (F.ev rfl)) fun a F => ?_
  refine lx_nil ?_
  repeat (first | refine ex_then ?_ | refine ex_block ?_ | refine wp_seq ?_ | refine wp_block ?_ | refine wp_skip ?_)
  refine wp_ret ?_
  repeat (first | refine ex_thenR ?_ | refine ex_blockR ?_)
  exact sx_ret F HM (res_tmp F rfl (s := 6) rfl)

def lenOf : Value → Nat
  | .slice _ n _ => n
  | _ => 0
theorem same_is (n cap m capb : Nat) (pa pb : Option Addr) (xs ys : List Nat) (w0 : World) (h : xs = ys) (r : RN w0.heap.size w0 pa n cap xs) (r2 : RN w0.heap.size w0 pb m capb ys) : Calls Try.prog 10 #[.slice pa n cap, .slice pb m capb] w0 fun e w' => e = .returned (.bool true) ∧ Below w0.heap.size w0 w' := by
  have := same_any n cap m capb pa pb xs ys w0 r r2
  rwa [decide_eq_true h] at this
theorem LieAt.of_rn {n0 : Nat} {w : World} {g o n cap : Nat} {xs : List Nat} (r : RN n0 w (some ⟨g, o, none⟩) n cap xs) : LieAt w g o xs := fun i x hx => by
  obtain ⟨hi, rfl⟩ := List.getElem?_eq_some_iff.1 hx
  obtain ⟨g', o', e, _, _, hc⟩ := r.get (show i < n by rw [← r.1]; exact hi)
  cases e
  exact hc w (Below.refl _ _)
theorem run_app0 (a : Option Addr) (c : Nat) (ty : TypeId) (w : World) : (Builtin.append_ #[27, 27] ty #[.slice none 0 0, .slice a 0 c]).run Try.prog w = .ok (.slice none 0 0) w := by
  obtain ⟨i0, hi, hz0, hz1, hz2⟩ := info_parts Try.infoNum
  cases a with
  | none => simp [Builtin.append_, run_underlying Try.underlying27, sizeOf, typeInfo, hi, Builtin.lenOf, Builtin.firstCells]
  | some a =>
    have hl : (loadCells a 0).run Try.prog w = .ok #[] w := run_loadCells_list (P := Try.prog) w a [] (by simp)
    simp [Builtin.append_, run_underlying Try.underlying27, sizeOf, typeInfo, hi, Builtin.lenOf, Builtin.firstCells, hl]
/-- a copy of a slice, in a row of one's own -/
theorem copyR {n0 : Nat} {w0 w : World} {A R : List (Nat × TypeId × Array Value)} {dst : Option Tmp} {ρ : Operand → Value} {xs : List Nat} {a : Option Addr} {n c : Nat} {x : Operand} {ty : TypeId} {pos : String} {after : Array Edge} {gd : Option (Nat × Bool)} (H : Mem n0 w0 w (A ++ R)) (r : RN w.heap.size w a n c xs) (hs : ρ (.const (.slice none 0 0)) = .slice none 0 0) (hx : ρ x = .slice a n c) (hb : n ≤ 1000) :
    ∃ v' w', (execOp ρ ⟨dst, .call { callee := .builtin .append, args := #[.const (.slice none 0 0), x], argTypes := #[27, 27] }, ty, pos, after, gd⟩).run Try.prog w = .ok (.value v') w' ∧ ∃ R', Mem n0 w0 w' (A ++ R') ∧ LR R' v' xs := by
  by_cases h0 : xs = []
  · subst h0
    obtain rfl : n = 0 := r.1.symm
    have hr := run_app0 a c ty w
    refine ⟨_, w, ?_, R, H, LR.nil R⟩
    unfold execOp
    simp only [resolve, invoke, builtin, Sem.run_bind, Sem.run_pure, Result.andThen_ok, List.map_toArray, List.map_cons, List.map_nil, hs, hx, hr]
  · obtain ⟨g, o, rfl, _⟩ := r.get (i := 0) (by rw [← r.1]; exact List.length_pos_iff.2 h0)
    obtain ⟨v', w', hrun, R', HM, l, _⟩ := appR (dst := dst) (ty := ty) (pos := pos) (after := after) (gd := gd) H (LR.nil R) hs hx r.1 (LieAt.of_rn r) (by simpa using h0) (by simp; omega)
    exact ⟨v', w', hrun, R', HM, by simpa using l⟩
set_option maxRecDepth 100000 in
set_option maxHeartbeats 800000 in
theorem pbk_ok (P Q G H k capp n cap : Nat) (pp pa : Option Addr) (ps xs : List Nat) (w0 : World) (hQ : Q < 2 ^ 256) (rp : RN w0.heap.size w0 pp k capp ps) (r : RN w0.heap.size w0 pa n cap xs) (hk : k ≤ 20) (hn : n ≤ 20) (hkn : k ≤ n) : Calls Try.prog 4 #[grp P Q G H, .slice pp k capp, .slice pa n cap] w0 fun e w' => e = .returned (.bool true) ∧ Below w0.heap.size w0 w' := by
  refine sx_enter (args := [grp P Q G H, .slice pp k capp, .slice pa n cap]) Try.func4 rfl Try.ntmps4 (by rfl) fun a F HM => ?_
  repeat (first | refine ex_then ?_ | refine ex_block ?_ | refine wp_seq ?_ | refine wp_block ?_ | refine wp_skip ?_)
  refine wp_region_lit ?_
  refine lx_new F HM (wanted_none rfl _) rfl (by rfl) (o_boxG (F.ev rfl)) fun a w gg F HM => ?_
  refine lx_value (v := .bool false) F (wanted_none rfl _) rfl (by rfl) (o_assign rfl) fun a F => ?_
  refine lx_nil ?_
  repeat (first | refine ex_then ?_ | refine ex_block ?_ | refine wp_seq ?_ | refine wp_block ?_ | refine wp_skip ?_)
  refine wp_region_lit ?_
  refine lx_call F (wanted_none rfl _) rfl (by rfl) (run_callF Try.func7 (by kernel_rfl) (by rfl) .nil _) (alive10_any _) fun a w z F => ?_
  replace HM := HM.on z
  clear z
  refine lx_value (v := .bool false) F (wanted_none rfl _) rfl (by rfl) (o_not (b := true) (r := false) (F.ev rfl) rfl) fun a F => ?_
  refine lx_value (v := .bool false) F (wanted_none rfl _) rfl (by rfl) (o_move (F.ev rfl)) fun a F => ?_
  refine lx_value (v := .slice pp k capp) F (F.want (t := 16) (c := false) rfl rfl rfl (by rfl) rfl) rfl (by rfl) (o_move (F.ev rfl)) fun a F => ?_
  refine lx_value (v := .int .i64 (k : Nat)) F (F.want (t := 16) (c := false) rfl rfl rfl (by rfl) rfl) rfl (by rfl) (o_len (F.ev rfl)) fun a F => ?_
  refine lx_value (v := .bool false) F (F.want (t := 16) (c := false) rfl rfl rfl (by rfl) rfl) rfl (by rfl) (o_bin (u := .int .i64 (k : Nat)) (v := .int .i64 20) (fun ρ hx hy => by simp only [execOp, hx, hy]; simp [go_sem]; omega) (F.ev rfl) rfl) fun a F => ?_
  refine lx_value (v := .bool false) F (wanted_none rfl _) rfl (by rfl) (o_pick (b := false) (r := .bool false) (F.ev rfl) rfl (F.ev rfl) rfl) fun a F => ?_
  refine lx_value (v := .bool false) F (wanted_none rfl _) rfl (by rfl) (o_move (F.ev rfl)) fun a F => ?_
  refine lx_value (v := .slice pa n cap) F (F.want (t := 21) (c := false) rfl rfl rfl (by rfl) rfl) rfl (by rfl) (o_move (F.ev rfl)) fun a F => ?_
  refine lx_value (v := .int .i64 (n : Nat)) F (F.want (t := 21) (c := false) rfl rfl rfl (by rfl) rfl) rfl (by rfl) (o_len (F.ev rfl)) fun a F => ?_
  refine lx_value (v := .bool false) F (F.want (t := 21) (c := false) rfl rfl rfl (by rfl) rfl) rfl (by rfl) (o_bin (u := .int .i64 (n : Nat)) (v := .int .i64 20) (fun ρ hx hy => by simp only [execOp, hx, hy]; simp [go_sem]; omega) (F.ev rfl) rfl) fun a F => ?_
  refine lx_value (v := .bool false) F (wanted_none rfl _) rfl (by rfl) (o_pick (b := false) (r := .bool false) (F.ev rfl) rfl (F.ev rfl) rfl) fun a F => ?_
  refine lx_value (v := .bool false) F (wanted_none rfl _) rfl (by rfl) (o_move (F.ev rfl)) fun a F => ?_
  refine lx_value (v := .slice pa n cap) F (F.want (t := 26) (c := false) rfl rfl rfl (by rfl) rfl) rfl (by rfl) (o_move (F.ev rfl)) fun a F => ?_
  refine lx_value (v := .int .i64 (n : Nat)) F (F.want (t := 26) (c := false) rfl rfl rfl (by rfl) rfl) rfl (by rfl) (o_len (F.ev rfl)) fun a F => ?_
  refine lx_value (v := .slice pp k capp) F (F.want (t := 26) (c := false) rfl rfl rfl (by rfl) rfl) rfl (by rfl) (o_move (F.ev rfl)) fun a F => ?_
  refine lx_value (v := .int .i64 (k : Nat)) F (F.want (t := 26) (c := false) rfl rfl rfl (by rfl) rfl) rfl (by rfl) (o_len (F.ev rfl)) fun a F => ?_
  refine lx_value (v := .bool false) F (F.want (t := 26) (c := false) rfl rfl rfl (by rfl) rfl) rfl (by rfl) (o_bin (u := .int .i64 (n : Nat)) (v := .int .i64 (k : Nat)) (fun ρ hx hy => by simp only [execOp, hx, hy]; simp [go_sem]; omega) (F.ev rfl) (F.ev rfl)) fun a F => ?_
  refine lx_value (v := .bool false) F (wanted_none rfl _) rfl (by rfl) (o_pick (b := false) (r := .bool false) (F.ev rfl) rfl (F.ev rfl) rfl) fun a F => ?_
  refine lx_nil ?_
  repeat (first | refine ex_then ?_ | refine ex_block ?_ | refine wp_seq ?_ | refine wp_block ?_ | refine wp_skip ?_)
  refine wp_cond_false (F.ev rfl) ?_
  repeat (first | refine ex_then ?_ | refine ex_block ?_ | refine wp_seq ?_ | refine wp_block ?_ | refine wp_skip ?_)
  refine wp_region_lit ?_
  refine lx_value (v := .slice none 0 0) F (wanted_none rfl _) rfl (by rfl) (o_assign rfl) fun a F => ?_
  refine lx_nil ?_
  repeat (first | refine ex_then ?_ | refine ex_block ?_ | refine wp_seq ?_ | refine wp_block ?_ | refine wp_skip ?_)
  refine wp_region_lit ?_
  refine lx_value (v := .int .i64 0) F (wanted_none rfl _) rfl (by rfl) (o_assign rfl) fun a F => ?_
  refine lx_nil ?_
  repeat (first | refine ex_then ?_ | refine ex_block ?_ | refine wp_seq ?_ | refine wp_block ?_ | refine wp_skip ?_)
  refine wp_loop (fun a w => ∃ (i : Nat) (v : Value) (vs : List Nat) (R : List (Nat × TypeId × Array Value)), i ≤ n ∧ vs.length = i ∧ (∀ j x, j < i → xs[j]? = some x → atB Q x ps = true ∧ vs[j]? = some (sofN Q (evZ (zs ps) (x : Int)))) ∧ (∀ v ∈ vs, v < 2 ^ 256) ∧ LR R v vs ∧ Fr a 90 [(8, .int .i64 (i : Nat)), (1, .slice pp k capp), (2, .slice pa n cap), (7, v), (3, .pointer (some ⟨gg, 0, none⟩))] [] ∧ Mem w0.heap.size w0 w ((gg, 26, gcs P Q G H) :: R)) (fun a _ => n - (intOf (a.tmps.getD 8 undef)).toNat) ⟨0, _, [], [], Nat.zero_le _, rfl, fun j x h => absurd h (Nat.not_lt_zero _), fun v h => (by cases h), LR.nil _, F.sub [8, 1, 2, 7, 3], HM⟩ ?_
  clear F HM
  rintro aS wS ⟨i, v, vs, R, hi, hvl, hvs, hvb, lv, FS, HM⟩
  have F := FS
  by_cases hlt : i < n
  · repeat (first | refine ex_then ?_ | refine ex_block ?_ | refine wp_seq ?_ | refine wp_block ?_ | refine wp_skip ?_)
    refine wp_region_lit ?_
    refine lx_value (v := .int .i64 (i : Nat)) F (wanted_none rfl _) rfl (by rfl) (o_move (F.ev rfl)) fun a F => ?_
    refine lx_value (v := .slice pa n cap) F (wanted_none rfl _) rfl (by rfl) (o_move (F.ev rfl)) fun a F => ?_
    refine lx_value (v := .int .i64 (n : Nat)) F (wanted_none rfl _) rfl (by rfl) (o_len (F.ev rfl)) fun a F => ?_
    refine lx_value (v := .bool true) F (wanted_none rfl _) rfl (by rfl) (o_bin (u := .int .i64 (i : Nat)) (v := .int .i64 (n : Nat)) (fun ρ hx hy => by simp only [execOp, hx, hy]; simp [go_sem]; omega) (F.ev rfl) (F.ev rfl)) fun a F => ?_
    refine lx_nil ?_
    repeat (first | refine ex_then ?_ | refine ex_block ?_ | refine wp_seq ?_ | refine wp_block ?_ | refine wp_skip ?_)
    refine wp_cond_true (F.ev rfl) ?_
    have hwr := r.room hlt
    obtain ⟨gl, ol, hpa, hil, hxb, hc⟩ := r.get hlt
    have hget : xs[i]? = some xs[i] := List.getElem?_eq_getElem hil
    generalize xs[i] = x at *
    have hzz : wS.heap.size = wS.heap.size := rfl
    by_cases hat : atB Q x ps = true
    · have hvl2 : sofN Q (evZ (zs ps) (x : Int)) < 2 ^ 256 := Nat.lt_trans (sof_lt (atB_iff.1 hat).1 _) hQ
      have hval : ∀ u, Below wS.heap.size wS u → Calls Try.prog 9 #[grp P Q G H, .slice pp k capp, num x] u fun e w2 => e = .returned (.tuple #[num (sofN Q (evZ (zs ps) (x : Int))), .int .i64 0]) ∧ Below u.heap.size u w2 := fun u z => at_yes P Q G H x k capp pp ps u hQ hat ((rp.call HM.bel HM.bel.size).call z z.size)
      obtain ⟨y, hye⟩ : ∃ y, y = sofN Q (evZ (zs ps) (x : Int)) := ⟨_, rfl⟩
      rw [← hye] at hvl2 hval
      repeat (first | refine ex_then ?_ | refine ex_block ?_ | refine wp_seq ?_ | refine wp_block ?_ | refine wp_skip ?_)
      refine sx_enterR (S := fun w' => Mem _ _ w' ((gg, 26, gcs P Q G H) :: R)) HM (fun _ h => h) (by kernel_rfl) fun w HM HBW => ?_
      have HBX := HBW
      clear HBW
      try simp only [List.append_eq, List.cons_append, List.nil_append]
      refine sx_batch [⟨0, 41, [], .val (grp P Q G H), true⟩,
      ⟨1, 42, [0], .val (.slice pp k capp), true⟩,
      ⟨2, 43, [1], .val (.slice pa n cap), true⟩,
      ⟨3, 44, [2], .val (.int .i64 (i : Nat)), true⟩,
      ⟨4, 45, [2, 3], .val (.pointer (some ⟨gl, ol + i * 4, none⟩)), true⟩,
      ⟨5, 46, [4], .val (num x), true⟩,
      ⟨10, 9, [], .cell 24 (ncs 0), false⟩,
      ⟨6, 47, [0, 1, 5], .val (.tuple #[num y, .int .i64 0]), false⟩,
      ⟨7, 40, [7], .val (.tuple #[num y, .int .i64 0]), true⟩,
      ⟨8, 48, [8], .val (num y), true⟩,
      ⟨9, 49, [8, 9], .val (.int .i64 0), true⟩] 2 _ F HM (fun _ h => h.subl (by first | exact List.Sublist.refl _ | (repeat (first | exact List.Sublist.refl _ | refine List.Sublist.cons_cons _ ?_ | refine List.Sublist.cons _ ?_)))) (by kernel_rfl) (by rfl) ?_ ?_ ?_ ?_ ?_ ?_ ?_
      · kernel_rfl
      · exact of_decide_eq_true (by kernel_rfl)
      · exact all_cons ⟨_, by rfl, by rfl⟩ (all_cons ⟨_, by rfl, by rfl⟩ (all_cons ⟨_, by rfl, by rfl⟩ (all_cons ⟨_, by rfl, by rfl⟩ (all_cons ⟨_, by rfl, by rfl⟩ (all_cons ⟨_, by rfl, by rfl⟩ (all_cons ⟨_, by rfl, by rfl⟩ (all_cons ⟨_, by rfl, by rfl⟩ (all_cons ⟨_, by rfl, by rfl⟩ (all_cons ⟨_, by rfl, by rfl⟩ (all_cons ⟨_, by rfl, by rfl⟩ (all_nil)))))))))))
      · kernel_rfl
      · refine all_cons ?_ (all_cons ?_ (all_cons ?_ (all_cons ?_ (all_cons ?_ (all_cons ?_ (all_cons ?_ (all_cons ?_ (all_cons ?_ (all_cons ?_ (all_cons ?_ (all_nil)))))))))))
        · exact coreS _ _ _ _ _ _ _ (by rfl) (by rfl) (wants_none) (fun ρ w kn hs => o_loadG (kn _ _ (F.old (by rfl) rfl)) (hs.get 0 rfl))
        · exact coreS _ _ _ _ _ _ _ (by rfl) (by rfl) (wants_none) (fun ρ w kn hs => o_move (kn _ _ (F.old (by rfl) rfl)))
        · exact coreS _ _ _ _ _ _ _ (by rfl) (by rfl) (wants_none) (fun ρ w kn hs => o_move (kn _ _ (F.old (by rfl) rfl)))
        · exact coreS _ _ _ _ _ _ _ (by rfl) (by rfl) (wants_none) (fun ρ w kn hs => o_move (kn _ _ (F.old (by rfl) rfl)))
        · exact coreS _ _ _ _ _ _ _ (by rfl) (by rfl) (wants_none) (fun ρ w kn hs => o_idxN hlt (by rw [← hpa]; exact (kn _ _ (known_core 2 43 _ _ (of_decide_eq_true (by rfl)) (by rfl) (by rfl) (by rfl)))) (kn _ _ (known_core 3 44 _ _ (of_decide_eq_true (by rfl)) (by rfl) (by rfl) (by rfl))))
        · exact coreS _ _ _ _ _ _ _ (by rfl) (by rfl) (wants_none) (fun ρ w kn hs => o_loadC (kn _ _ (known_core 4 45 _ _ (of_decide_eq_true (by rfl)) (by rfl) (by rfl) (by rfl))) (hc _ hs.bel))
        · exact core_pureAs _ (by rfl)
        · exact core_pureAs _ (by rfl)
        · exact coreS _ _ _ _ _ _ _ (by rfl) (by rfl) (wants_none) (fun ρ w kn hs => o_move (kn _ _ (known_core 7 47 _ _ (of_decide_eq_true (by rfl)) (by rfl) (by rfl) (by rfl))))
        · exact coreS _ _ _ _ _ _ _ (by rfl) (by rfl) (wants_none) (fun ρ w kn hs => o_extract (kn _ _ (known_core 8 40 _ _ (of_decide_eq_true (by rfl)) (by rfl) (by rfl) (by rfl))) rfl)
        · exact coreS _ _ _ _ _ _ _ (by rfl) (by rfl) (wants_none) (fun ρ w kn hs => o_extract (kn _ _ (known_core 8 40 _ _ (of_decide_eq_true (by rfl)) (by rfl) (by rfl) (by rfl))) rfl)
      · refine all_cons ?_ (all_cons ?_ (all_cons ?_ (all_cons ?_ (all_cons ?_ (all_cons ?_ (all_cons ?_ (all_cons ?_ (all_cons ?_ (all_cons ?_ (all_cons ?_ (all_nil)))))))))))
        · exact core_stepAs _ (by rfl)
        · exact core_stepAs _ (by rfl)
        · exact core_stepAs _ (by rfl)
        · exact core_stepAs _ (by rfl)
        · exact core_stepAs _ (by rfl)
        · exact core_stepAs _ (by rfl)
        · exact fun _ => core_new _ _ _ _ _ _ _ _ (by rfl) (by rfl) (Nat.le_refl _) (fun ρ w => o_allocN)
        · exact fun _ => coreG_callB _ 9 _ _ [.tmp 41, .tmp 42, .tmp 46] _ _ _ _ _ _ _ (by rfl) Try.func9 (by kernel_rfl) (by rfl) (by rfl) (wants_none) (.cons (known_core 0 41 _ _ (of_decide_eq_true (by rfl)) (by rfl) (by rfl) (by rfl)) (.cons (known_core 1 42 _ _ (of_decide_eq_true (by rfl)) (by rfl) (by rfl) (by rfl)) (.cons (known_core 5 46 _ _ (of_decide_eq_true (by rfl)) (by rfl) (by rfl) (by rfl)) .nil))) (fun u hb => (fun u (z : Below w.heap.size w u) => hval u (bel_tr HBX z)) u hb)
        · exact core_stepAs _ (by rfl)
        · exact core_stepAs _ (by rfl)
        · exact core_stepAs _ (by rfl)
      intro gs rs a w hgs hrs F HM HBW HR HO HT
      obtain rfl := nl0 rs hrs
      obtain ⟨gb, rfl⟩ := nl1 gs hgs
      have HBX := HBW
      clear hrs hgs HR HBW HO
      clear HT
      refine sx_store (i := 11) HM (by kernel_rfl) (by rfl) rfl rfl (k := 0) rfl (o_storeN (F.ev rfl) (F.ev rfl) (HM.get 0 rfl)) (M2 := ((gb, 24, ncs y) :: (gg, 26, gcs P Q G H) :: R)) (rfl) (fun _ h => h.subl (by first | exact List.Sublist.refl _ | (repeat (first | exact List.Sublist.refl _ | refine List.Sublist.cons_cons _ ?_ | refine List.Sublist.cons _ ?_)))) fun w HM => ?_
      refine sx_assign (i := 12) (d := 10) (x := .tmp 49) (v := .int .i64 0) F ((HM.subl (by first | exact List.Sublist.refl _ | (repeat (first | exact List.Sublist.refl _ | refine List.Sublist.cons_cons _ ?_ | refine List.Sublist.cons _ ?_))))) (by kernel_rfl) (by rfl) (by rfl) (F.ev rfl) fun a F => ?_
      refine sx_done (by kernel_rfl) ?_ _
      repeat (first | refine ex_then ?_ | refine ex_block ?_ | refine wp_seq ?_ | refine wp_block ?_ | refine wp_skip ?_)
      refine wp_region_lit ?_
      refine lx_value (v := .int .i64 0) F (wanted_none rfl _) rfl (by rfl) (o_move (F.ev rfl)) fun a F => ?_
      refine lx_value (v := .bool false) F (wanted_none rfl _) rfl (by rfl) (o_bin (u := .int .i64 0) (v := .int .i64 0) (fun ρ hx hy => by simp only [execOp, hx, hy]; simp [go_sem]) (F.ev rfl) rfl) fun a F => ?_
      refine lx_nil ?_
      repeat (first | refine ex_then ?_ | refine ex_block ?_ | refine wp_seq ?_ | refine wp_block ?_ | refine wp_skip ?_)
      refine wp_cond_false (F.ev rfl) ?_
      repeat (first | refine ex_then ?_ | refine ex_block ?_ | refine wp_seq ?_ | refine wp_block ?_ | refine wp_skip ?_)
      refine wp_region_lit ?_
      refine lx_value (v := v) F (wanted_none rfl _) rfl (by rfl) (o_move (F.ev rfl)) fun a F => ?_
      refine lx_value (v := num y) F (wanted_none rfl _) rfl (by rfl) (o_loadN (F.ev rfl) (HM.get 0 rfl)) fun a F => ?_
      refine lx_rowM F HM (wanted_none rfl _) rfl (by rfl) (o_slice1 (F.ev rfl)) fun a w gr F HM => ?_
      obtain ⟨v2, w2, hrun, R, HM2, l2, lk2⟩ := appR (ρ := a.eval) (s := .tmp 52) (x := .tmp 54) (A := [(gr, 24, (rows1 y)), (gb, 24, ncs y), (gg, 26, gcs P Q G H)]) HM lv (F.ev rfl) (F.ev rfl) rfl ((Pf.one y).lie (HM.get 0 rfl)) (by simp) (by omega)
      replace HM := HM2; have lv := l2
      refine lx_value (v := v2) F (wanted_none rfl _) rfl (by rfl) hrun fun a F => ?_
      refine lx_value (v := v2) F (wanted_none rfl _) rfl (by rfl) (o_assign (F.ev rfl)) fun a F => ?_
      refine lx_nil ?_
      replace HM := HM.erase 0 (M2 := ((gb, 24, ncs y) :: (gg, 26, gcs P Q G H) :: R)) rfl
      replace HM := HM.erase 0 (M2 := ((gg, 26, gcs P Q G H) :: R)) rfl
      repeat (first | refine ex_then ?_ | refine ex_block ?_ | refine wp_seq ?_ | refine wp_block ?_ | refine wp_skip ?_)
      refine wp_region_lit ?_
      refine lx_value (v := .int .i64 (i : Nat)) F (wanted_none rfl _) rfl (by rfl) (o_move (F.ev rfl)) fun a F => ?_
      refine lx_value (v := .int .i64 ((i + 1 : Nat) : Int)) F (wanted_none rfl _) rfl (by rfl) (o_bin (u := .int .i64 (i : Nat)) (v := .int .i64 1) (fun ρ hx hy => by simp only [execOp, hx, hy]; simp [go_sem, hwr]) (F.ev rfl) rfl) fun a F => ?_
      refine lx_value (v := .int .i64 ((i + 1 : Nat) : Int)) F (wanted_none rfl _) rfl (by rfl) (o_assign (F.ev rfl)) fun a F => ?_
      refine lx_nil ?_
      refine ex_then ?_
      refine ⟨⟨i + 1, _, vs ++ [y], _, by omega, by simp [hvl], fun j z hj hz => ?_, fun u hu => ?_, lv, F.sub [8, 1, 2, 7, 3], HM⟩, ?_⟩
      · by_cases e : j = i
        · subst e
          rw [hget] at hz
          cases hz
          exact ⟨hat, by rw [List.getElem?_append_right (by omega)]; simp [hvl, hye]⟩
        · have := hvs j z (by omega) hz
          exact ⟨this.1, by rw [List.getElem?_append_left (by omega)]; exact this.2⟩
      · rcases List.mem_append.1 hu with hu | hu
        · exact hvb u hu
        · rw [List.mem_singleton.1 hu]; exact hvl2
      · show n - (intOf (a.tmps.getD 8 undef)).toNat < n - (intOf (aS.tmps.getD 8 undef)).toNat
        rw [F.get 8 _ rfl, FS.get 8 _ rfl]
        show n - ((i + 1 : Nat) : Int).toNat < n - ((i : Nat) : Int).toNat
        omega
    · have hval : ∀ u, Below wS.heap.size wS u → Calls Try.prog 9 #[grp P Q G H, .slice pp k capp, num x] u fun e w2 => e = .returned (.tuple #[num 0, .int .i64 1]) ∧ Below u.heap.size u w2 := fun u z => at_no P Q G H x k capp pp ps u hQ hxb (Bool.eq_false_iff.2 hat) ((rp.call HM.bel HM.bel.size).call z z.size)
      repeat (first | refine ex_then ?_ | refine ex_block ?_ | refine wp_seq ?_ | refine wp_block ?_ | refine wp_skip ?_)
      refine sx_enterR (S := fun w' => Mem _ _ w' ((gg, 26, gcs P Q G H) :: R)) HM (fun _ h => h) (by kernel_rfl) fun w HM HBW => ?_
      have HBX := HBW
      clear HBW
      try simp only [List.append_eq, List.cons_append, List.nil_append]
      refine sx_batch [⟨0, 41, [], .val (grp P Q G H), true⟩,
      ⟨1, 42, [0], .val (.slice pp k capp), true⟩,
      ⟨2, 43, [1], .val (.slice pa n cap), true⟩,
      ⟨3, 44, [2], .val (.int .i64 (i : Nat)), true⟩,
      ⟨4, 45, [2, 3], .val (.pointer (some ⟨gl, ol + i * 4, none⟩)), true⟩,
      ⟨5, 46, [4], .val (num x), true⟩,
      ⟨10, 9, [], .cell 24 (ncs 0), false⟩,
      ⟨6, 47, [0, 1, 5], .val (.tuple #[num 0, .int .i64 1]), false⟩,
      ⟨7, 40, [7], .val (.tuple #[num 0, .int .i64 1]), true⟩,
      ⟨8, 48, [8], .val (num 0), true⟩,
      ⟨9, 49, [8, 9], .val (.int .i64 1), true⟩] 2 _ F HM (fun _ h => h.subl (by first | exact List.Sublist.refl _ | (repeat (first | exact List.Sublist.refl _ | refine List.Sublist.cons_cons _ ?_ | refine List.Sublist.cons _ ?_)))) (by kernel_rfl) (by rfl) ?_ ?_ ?_ ?_ ?_ ?_ ?_
      · kernel_rfl
      · exact of_decide_eq_true (by kernel_rfl)
      · exact all_cons ⟨_, by rfl, by rfl⟩ (all_cons ⟨_, by rfl, by rfl⟩ (all_cons ⟨_, by rfl, by rfl⟩ (all_cons ⟨_, by rfl, by rfl⟩ (all_cons ⟨_, by rfl, by rfl⟩ (all_cons ⟨_, by rfl, by rfl⟩ (all_cons ⟨_, by rfl, by rfl⟩ (all_cons ⟨_, by rfl, by rfl⟩ (all_cons ⟨_, by rfl, by rfl⟩ (all_cons ⟨_, by rfl, by rfl⟩ (all_cons ⟨_, by rfl, by rfl⟩ (all_nil)))))))))))
      · kernel_rfl
      · refine all_cons ?_ (all_cons ?_ (all_cons ?_ (all_cons ?_ (all_cons ?_ (all_cons ?_ (all_cons ?_ (all_cons ?_ (all_cons ?_ (all_cons ?_ (all_cons ?_ (all_nil)))))))))))
        · exact coreS _ _ _ _ _ _ _ (by rfl) (by rfl) (wants_none) (fun ρ w kn hs => o_loadG (kn _ _ (F.old (by rfl) rfl)) (hs.get 0 rfl))
        · exact coreS _ _ _ _ _ _ _ (by rfl) (by rfl) (wants_none) (fun ρ w kn hs => o_move (kn _ _ (F.old (by rfl) rfl)))
        · exact coreS _ _ _ _ _ _ _ (by rfl) (by rfl) (wants_none) (fun ρ w kn hs => o_move (kn _ _ (F.old (by rfl) rfl)))
        · exact coreS _ _ _ _ _ _ _ (by rfl) (by rfl) (wants_none) (fun ρ w kn hs => o_move (kn _ _ (F.old (by rfl) rfl)))
        · exact coreS _ _ _ _ _ _ _ (by rfl) (by rfl) (wants_none) (fun ρ w kn hs => o_idxN hlt (by rw [← hpa]; exact (kn _ _ (known_core 2 43 _ _ (of_decide_eq_true (by rfl)) (by rfl) (by rfl) (by rfl)))) (kn _ _ (known_core 3 44 _ _ (of_decide_eq_true (by rfl)) (by rfl) (by rfl) (by rfl))))
        · exact coreS _ _ _ _ _ _ _ (by rfl) (by rfl) (wants_none) (fun ρ w kn hs => o_loadC (kn _ _ (known_core 4 45 _ _ (of_decide_eq_true (by rfl)) (by rfl) (by rfl) (by rfl))) (hc _ hs.bel))
        · exact core_pureAs _ (by rfl)
        · exact core_pureAs _ (by rfl)
        · exact coreS _ _ _ _ _ _ _ (by rfl) (by rfl) (wants_none) (fun ρ w kn hs => o_move (kn _ _ (known_core 7 47 _ _ (of_decide_eq_true (by rfl)) (by rfl) (by rfl) (by rfl))))
        · exact coreS _ _ _ _ _ _ _ (by rfl) (by rfl) (wants_none) (fun ρ w kn hs => o_extract (kn _ _ (known_core 8 40 _ _ (of_decide_eq_true (by rfl)) (by rfl) (by rfl) (by rfl))) rfl)
        · exact coreS _ _ _ _ _ _ _ (by rfl) (by rfl) (wants_none) (fun ρ w kn hs => o_extract (kn _ _ (known_core 8 40 _ _ (of_decide_eq_true (by rfl)) (by rfl) (by rfl) (by rfl))) rfl)
      · refine all_cons ?_ (all_cons ?_ (all_cons ?_ (all_cons ?_ (all_cons ?_ (all_cons ?_ (all_cons ?_ (all_cons ?_ (all_cons ?_ (all_cons ?_ (all_cons ?_ (all_nil)))))))))))
        · exact core_stepAs _ (by rfl)
        · exact core_stepAs _ (by rfl)
        · exact core_stepAs _ (by rfl)
        · exact core_stepAs _ (by rfl)
        · exact core_stepAs _ (by rfl)
        · exact core_stepAs _ (by rfl)
        · exact fun _ => core_new _ _ _ _ _ _ _ _ (by rfl) (by rfl) (Nat.le_refl _) (fun ρ w => o_allocN)
        · exact fun _ => coreG_callB _ 9 _ _ [.tmp 41, .tmp 42, .tmp 46] _ _ _ _ _ _ _ (by rfl) Try.func9 (by kernel_rfl) (by rfl) (by rfl) (wants_none) (.cons (known_core 0 41 _ _ (of_decide_eq_true (by rfl)) (by rfl) (by rfl) (by rfl)) (.cons (known_core 1 42 _ _ (of_decide_eq_true (by rfl)) (by rfl) (by rfl) (by rfl)) (.cons (known_core 5 46 _ _ (of_decide_eq_true (by rfl)) (by rfl) (by rfl) (by rfl)) .nil))) (fun u hb => (fun u (z : Below w.heap.size w u) => hval u (bel_tr HBX z)) u hb)
        · exact core_stepAs _ (by rfl)
        · exact core_stepAs _ (by rfl)
        · exact core_stepAs _ (by rfl)
      intro gs rs a w hgs hrs F HM HBW HR HO HT
      obtain rfl := nl0 rs hrs
      obtain ⟨gb, rfl⟩ := nl1 gs hgs
      have HBX := HBW
      clear hrs hgs HR HBW HO
      clear HT
      refine sx_store (i := 11) HM (by kernel_rfl) (by rfl) rfl rfl (k := 0) rfl (o_storeN (F.ev rfl) (F.ev rfl) (HM.get 0 rfl)) (M2 := ((gb, 24, ncs 0) :: (gg, 26, gcs P Q G H) :: R)) (rfl) (fun _ h => h.subl (by first | exact List.Sublist.refl _ | (repeat (first | exact List.Sublist.refl _ | refine List.Sublist.cons_cons _ ?_ | refine List.Sublist.cons _ ?_)))) fun w HM => ?_
      refine sx_assign (i := 12) (d := 10) (x := .tmp 49) (v := .int .i64 1) F ((HM.subl (by first | exact List.Sublist.refl _ | (repeat (first | exact List.Sublist.refl _ | refine List.Sublist.cons_cons _ ?_ | refine List.Sublist.cons _ ?_))))) (by kernel_rfl) (by rfl) (by rfl) (F.ev rfl) fun a F => ?_
      refine sx_done (by kernel_rfl) ?_ _
      repeat (first | refine ex_then ?_ | refine ex_block ?_ | refine wp_seq ?_ | refine wp_block ?_ | refine wp_skip ?_)
      refine wp_region_lit ?_
      refine lx_value (v := .int .i64 1) F (wanted_none rfl _) rfl (by rfl) (o_move (F.ev rfl)) fun a F => ?_
      refine lx_value (v := .bool true) F (wanted_none rfl _) rfl (by rfl) (o_bin (u := .int .i64 1) (v := .int .i64 0) (fun ρ hx hy => by simp only [execOp, hx, hy]; simp [go_sem]) (F.ev rfl) rfl) fun a F => ?_
      refine lx_nil ?_
      repeat (first | refine ex_then ?_ | refine ex_block ?_ | refine wp_seq ?_ | refine wp_block ?_ | refine wp_skip ?_)
      refine wp_cond_true (F.ev rfl) ?_
      repeat (first | refine ex_then ?_ | refine ex_block ?_ | refine wp_seq ?_ | refine wp_block ?_ | refine wp_skip ?_)
      refine wp_region_lit ?_
      refine lx_value (v := .bool true) F (wanted_none rfl _) rfl (by rfl) (o_assign rfl) fun a F => ?_
      refine lx_nil ?_
      repeat (first | refine ex_then ?_ | refine ex_block ?_ | refine wp_seq ?_ | refine wp_block ?_ | refine wp_skip ?_)
      refine wp_ret ?_
      repeat (first | refine ex_thenR ?_ | refine ex_blockR ?_)
      exact sx_ret F HM (res_tmp F rfl (s := 6) rfl)
  · repeat (first | refine ex_then ?_ | refine ex_block ?_ | refine wp_seq ?_ | refine wp_block ?_ | refine wp_skip ?_)
    refine wp_region_lit ?_
    refine lx_value (v := .int .i64 (i : Nat)) F (wanted_none rfl _) rfl (by rfl) (o_move (F.ev rfl)) fun a F => ?_
    refine lx_value (v := .slice pa n cap) F (wanted_none rfl _) rfl (by rfl) (o_move (F.ev rfl)) fun a F => ?_
    refine lx_value (v := .int .i64 (n : Nat)) F (wanted_none rfl _) rfl (by rfl) (o_len (F.ev rfl)) fun a F => ?_
    refine lx_value (v := .bool false) F (wanted_none rfl _) rfl (by rfl) (o_bin (u := .int .i64 (i : Nat)) (v := .int .i64 (n : Nat)) (fun ρ hx hy => by simp only [execOp, hx, hy]; simp [go_sem]; omega) (F.ev rfl) (F.ev rfl)) fun a F => ?_
    refine lx_nil ?_
    repeat (first | refine ex_then ?_ | refine ex_block ?_ | refine wp_seq ?_ | refine wp_block ?_ | refine wp_skip ?_)
    refine wp_cond_false (F.ev rfl) ?_
    repeat (first | refine ex_then ?_ | refine ex_block ?_ | refine wp_seq ?_ | refine wp_block ?_ | refine wp_skip ?_)
    refine wp_exit ?_
    repeat (first | refine ex_thenE ?_ | refine ex_blockE ?_)
    have hin : i = n := by omega
    obtain ⟨av, cv, rfl⟩ := lv.form
    have hvn : vs.length = n := hvl.trans hin
    rw [hvn] at F lv
    have hmn : n ≤ 20 := hn
    by_cases hb : thrB Q xs vs = true
    · by_cases hD : AllD Q xs
      · repeat (first | refine ex_then ?_ | refine ex_block ?_ | refine wp_seq ?_ | refine wp_block ?_ | refine wp_skip ?_)
        refine wp_region_lit ?_
        refine lx_value (v := grp P Q G H) F (wanted_none rfl _) rfl (by rfl) (o_loadG (F.ev rfl) (HM.get 0 rfl)) fun a F => ?_
        refine lx_value (v := .slice pa n cap) F (wanted_none rfl _) rfl (by rfl) (o_move (F.ev rfl)) fun a F => ?_
        refine lx_value (v := .slice av n cv) F (wanted_none rfl _) rfl (by rfl) (o_move (F.ev rfl)) fun a F => ?_
        refine lx_callE F (wanted_none rfl _) rfl (by rfl) (run_callF Try.func8 (by kernel_rfl) (by rfl) (.cons (F.ev rfl) (.cons (F.ev rfl) (.cons (F.ev rfl) .nil))) _) ((thr_any P Q G H n cap n cv pa av xs vs _ hQ (r.call HM.bel HM.bel.size) (lv.rn HM (fun x hx => by simp [hx]) hvb) (by omega) hb).mono (fun e w2 h => thr_ex (h.1 hD))) fun a w u hu F => ?_
        obtain ⟨z, gq, qs, cq, rfl, hg, hatq, hpq, hql, hqb, hqv⟩ := hu
        have hne := bel_lt HM hg
        have hge := Nat.le_trans (Nat.le_trans HM.le HM.bel.size) hg
        replace HM := (HM.on z).add hge (fun x hx => hne x hx) hatq
        clear hne hge hg z hatq
        refine lx_value (v := .tuple #[.slice (some ⟨gq, 0, none⟩) n n, .int .i64 0]) F (wanted_none rfl _) rfl (by rfl) (o_move (F.ev rfl)) fun a F => ?_
        refine lx_value (v := .slice (some ⟨gq, 0, none⟩) n n) F (wanted_none rfl _) rfl (by rfl) (o_extract (F.ev rfl) rfl) fun a F => ?_
        refine lx_value (v := .int .i64 0) F (wanted_none rfl _) rfl (by rfl) (o_extract (F.ev rfl) rfl) fun a F => ?_
        refine lx_value (v := .slice (some ⟨gq, 0, none⟩) n n) F (wanted_none rfl _) rfl (by rfl) (o_assign (F.ev rfl)) fun a F => ?_
        refine lx_value (v := .int .i64 0) F (wanted_none rfl _) rfl (by rfl) (o_assign (F.ev rfl)) fun a F => ?_
        refine lx_nil ?_
        repeat (first | refine ex_then ?_ | refine ex_block ?_ | refine wp_seq ?_ | refine wp_block ?_ | refine wp_skip ?_)
        refine wp_region_lit ?_
        refine lx_value (v := .int .i64 0) F (wanted_none rfl _) rfl (by rfl) (o_move (F.ev rfl)) fun a F => ?_
        refine lx_value (v := .bool false) F (wanted_none rfl _) rfl (by rfl) (o_bin (u := .int .i64 0) (v := .int .i64 0) (fun ρ hx hy => by simp only [execOp, hx, hy]; simp [go_sem]) (F.ev rfl) rfl) fun a F => ?_
        refine lx_nil ?_
        repeat (first | refine ex_then ?_ | refine ex_block ?_ | refine wp_seq ?_ | refine wp_block ?_ | refine wp_skip ?_)
        refine wp_cond_false (F.ev rfl) ?_
        have hqe : qs = ps ++ List.replicate (n - k) 0 := by
          have h1 := (thrB_iff.1 hb).2.2.1
          have hxn := r.1
          refine uniqN (Q := Q) (xs := zs xs) ?_ ?_ hqb ?_ hD ?_
          · rw [hql, List.length_append, List.length_replicate, rp.1, hxn]; omega
          · rw [hql]; exact Nat.le_of_eq (zs_len _).symm
          · intro c hc
            rcases List.mem_append.1 hc with hc | hc
            · exact (atB_iff.1 (hvs 0 (xs[0]'(by rw [hxn]; have := List.length_pos_iff.2 (thrB_iff.1 hb).2.2.2.1; omega)) (by rw [hin]; have := List.length_pos_iff.2 (thrB_iff.1 hb).2.2.2.1; omega) (List.getElem?_eq_getElem _)).1).2.2 c hc
            · rw [List.eq_of_mem_replicate hc]; omega
          · intro z hz
            obtain ⟨j, hj, rfl⟩ := List.getElem_of_mem hz
            rw [zs_len] at hj
            have hjx : xs[j]? = some xs[j] := List.getElem?_eq_getElem hj
            have h2 := (hvs j _ (by omega) hjx).2
            have h3 := hqv j _ _ hjx h2
            rw [zs_get hj]
            refine h3.trans ((sof_cg h1 _).trans (Cg.of_eq ?_))
            have e1 : zs (ps ++ List.replicate (n - k) 0) = zs ps ++ zs (List.replicate (n - k) 0) := by simp [zs]
            rw [e1, evZ_app, evZ_zero (zs (List.replicate (n - k) 0)) _ (fun c hc => by obtain ⟨m, hm, rfl⟩ := List.mem_map.1 hc; rw [List.eq_of_mem_replicate hm]; rfl)]; simp
        repeat (first | refine ex_then ?_ | refine ex_block ?_ | refine wp_seq ?_ | refine wp_block ?_ | refine wp_skip ?_)
        refine wp_region_lit ?_
        refine lx_value (v := .slice pp k capp) F (wanted_none rfl _) rfl (by rfl) (o_move (F.ev rfl)) fun a F => ?_
        obtain ⟨v2, w2, hrun, R, HM2, l2⟩ := copyR (ρ := a.eval) (x := .tmp 76) (A := [(gq, 24, cq), (gg, 26, gcs P Q G H)]) HM (rp.call HM.bel HM.bel.size) rfl (F.ev rfl) (by omega)
        refine lx_value (v := v2) F (wanted_none rfl _) rfl (by rfl) hrun fun a F => ?_
        replace HM := HM2
        clear lv
        refine lx_value (v := v2) F (wanted_none rfl _) rfl (by rfl) (o_assign (F.ev rfl)) fun a F => ?_
        refine lx_nil ?_
        repeat (first | refine ex_then ?_ | refine ex_block ?_ | refine wp_seq ?_ | refine wp_block ?_ | refine wp_skip ?_)
        refine wp_loop (fun a w => ∃ (j : Nat) (v2 : Value) (R : List (Nat × TypeId × Array Value)), k + j ≤ n ∧ LR R v2 (ps ++ List.replicate j 0) ∧ Fr a 90 [(13, v2), (2, .slice pa n cap), (11, .slice (some ⟨gq, 0, none⟩) n n)] [] ∧ Mem w0.heap.size w0 w ((gq, 24, cq) :: (gg, 26, gcs P Q G H) :: R)) (fun a _ => n - lenOf (a.tmps.getD 13 undef)) ⟨0, _, _, by omega, by simpa using l2, F.sub [13, 2, 11], HM⟩ ?_
        clear F FS HM l2
        rintro aT wT ⟨j, v2, R, hj, lv, FS, HM⟩
        have F := FS
        obtain ⟨a2, cap2, rfl⟩ := lv.form
        have hlj : (ps ++ List.replicate j 0).length = k + j := by simp [rp.1]
        have lv2 := lv; rw [hlj] at F lv2
        by_cases hlt2 : k + j < n
        · repeat (first | refine ex_then ?_ | refine ex_block ?_ | refine wp_seq ?_ | refine wp_block ?_ | refine wp_skip ?_)
          refine wp_region_lit ?_
          refine lx_value (v := .slice a2 (k + j) cap2) F (wanted_none rfl _) rfl (by rfl) (o_move (F.ev rfl)) fun a F => ?_
          refine lx_value (v := .int .i64 ((k + j : Nat) : Int)) F (wanted_none rfl _) rfl (by rfl) (o_len (F.ev rfl)) fun a F => ?_
          refine lx_value (v := .slice pa n cap) F (wanted_none rfl _) rfl (by rfl) (o_move (F.ev rfl)) fun a F => ?_
          refine lx_value (v := .int .i64 (n : Nat)) F (wanted_none rfl _) rfl (by rfl) (o_len (F.ev rfl)) fun a F => ?_
          refine lx_value (v := .bool true) F (wanted_none rfl _) rfl (by rfl) (o_bin (u := .int .i64 ((k + j : Nat) : Int)) (v := .int .i64 (n : Nat)) (fun ρ hx hy => by simp only [execOp, hx, hy]; simp [go_sem]; omega) (F.ev rfl) (F.ev rfl)) fun a F => ?_
          refine lx_nil ?_
          repeat (first | refine ex_then ?_ | refine ex_block ?_ | refine wp_seq ?_ | refine wp_block ?_ | refine wp_skip ?_)
          refine wp_cond_true (F.ev rfl) ?_
          repeat (first | refine ex_then ?_ | refine ex_block ?_ | refine wp_seq ?_ | refine wp_block ?_ | refine wp_skip ?_)
          refine wp_region_lit ?_
          refine lx_value (v := .slice a2 (k + j) cap2) F (wanted_none rfl _) rfl (by rfl) (o_move (F.ev rfl)) fun a F => ?_
          refine lx_value (v := num 0) F (wanted_none rfl _) rfl (by rfl) (o_build0) fun a F => ?_
          refine lx_rowM F HM (wanted_none rfl _) rfl (by rfl) (o_slice1 (F.ev rfl)) fun a w gr F HM => ?_
          obtain ⟨v2, w2, hrun, R, HM2, l2, lk2⟩ := appR (ρ := a.eval) (s := .tmp 83) (x := .tmp 85) (A := [(gr, 24, (rows1 0)), (gq, 24, cq), (gg, 26, gcs P Q G H)]) HM lv2 (F.ev rfl) (F.ev rfl) rfl ((Pf.one 0).lie (HM.get 0 rfl)) (by simp) (by rw [hlj]; omega)
          replace HM := HM2; have lv2 := l2
          refine lx_value (v := v2) F (wanted_none rfl _) rfl (by rfl) hrun fun a F => ?_
          refine lx_value (v := v2) F (wanted_none rfl _) rfl (by rfl) (o_assign (F.ev rfl)) fun a F => ?_
          refine lx_nil ?_
          replace HM := HM.erase 0 (M2 := ((gq, 24, cq) :: (gg, 26, gcs P Q G H) :: R)) rfl
          have hje : ps ++ List.replicate j 0 ++ [0] = ps ++ List.replicate (j + 1) 0 := by rw [List.append_assoc, ← List.replicate_succ']
          rw [hje] at lv2
          repeat (first | refine ex_block ?_ | refine ex_then ?_)
          refine ⟨⟨j + 1, _, _, by omega, lv2, F.sub [13, 2, 11], HM⟩, ?_⟩
          obtain ⟨a3, cap3, rfl⟩ := lv2.form
          · show n - lenOf (a.tmps.getD 13 undef) < n - lenOf (aT.tmps.getD 13 undef)
            rw [F.get 13 _ rfl, FS.get 13 _ rfl]
            simp only [lenOf]
            rw [hlj, List.length_append, List.length_replicate, rp.1]
            omega
        · repeat (first | refine ex_then ?_ | refine ex_block ?_ | refine wp_seq ?_ | refine wp_block ?_ | refine wp_skip ?_)
          refine wp_region_lit ?_
          refine lx_value (v := .slice a2 (k + j) cap2) F (wanted_none rfl _) rfl (by rfl) (o_move (F.ev rfl)) fun a F => ?_
          refine lx_value (v := .int .i64 ((k + j : Nat) : Int)) F (wanted_none rfl _) rfl (by rfl) (o_len (F.ev rfl)) fun a F => ?_
          refine lx_value (v := .slice pa n cap) F (wanted_none rfl _) rfl (by rfl) (o_move (F.ev rfl)) fun a F => ?_
          refine lx_value (v := .int .i64 (n : Nat)) F (wanted_none rfl _) rfl (by rfl) (o_len (F.ev rfl)) fun a F => ?_
          refine lx_value (v := .bool false) F (wanted_none rfl _) rfl (by rfl) (o_bin (u := .int .i64 ((k + j : Nat) : Int)) (v := .int .i64 (n : Nat)) (fun ρ hx hy => by simp only [execOp, hx, hy]; simp [go_sem]; omega) (F.ev rfl) (F.ev rfl)) fun a F => ?_
          refine lx_nil ?_
          repeat (first | refine ex_then ?_ | refine ex_block ?_ | refine wp_seq ?_ | refine wp_block ?_ | refine wp_skip ?_)
          refine wp_cond_false (F.ev rfl) ?_
          repeat (first | refine ex_then ?_ | refine ex_block ?_ | refine wp_seq ?_ | refine wp_block ?_ | refine wp_skip ?_)
          refine wp_exit ?_
          repeat (first | refine ex_thenE ?_ | refine ex_blockE ?_)
          have hjn : j = n - k := by omega
          have hkj : k + j = n := by omega
          have h1 := (thrB_iff.1 hb).2.2.1
          have hpb : ∀ c ∈ ps ++ List.replicate j 0, c < 2 ^ 256 := by rw [hjn, ← hqe]; exact fun c hc => Nat.lt_trans (hqb c hc) hQ
          repeat (first | refine ex_then ?_ | refine ex_block ?_ | refine wp_seq ?_ | refine wp_block ?_ | refine wp_skip ?_)
          refine wp_region_lit ?_
          refine lx_value (v := .slice (some ⟨gq, 0, none⟩) n n) F (wanted_none rfl _) rfl (by rfl) (o_move (F.ev rfl)) fun a F => ?_
          refine lx_value (v := .slice a2 (k + j) cap2) F (wanted_none rfl _) rfl (by rfl) (o_move (F.ev rfl)) fun a F => ?_
          refine lx_call F (wanted_none rfl _) rfl (by rfl) (run_callF Try.func10 (by kernel_rfl) (by rfl) (.cons (F.ev rfl) (.cons (F.ev rfl) .nil)) _) (same_is n n (k + j) cap2 _ a2 qs (ps ++ List.replicate j 0) _ (by rw [hjn]; exact hqe) (hpq.rsA (HM.get 0 rfl) (hql.trans r.1) (Nat.le_refl _) (by omega) (fun c hc => Nat.lt_trans (hqb c hc) hQ)) (lv2.rn HM (fun x hx => by simp [hx]) hpb)) fun a w z F => ?_
          replace HM := HM.on z
          clear z
          refine lx_value (v := .bool true) F (wanted_none rfl _) rfl (by rfl) (o_assign (F.ev rfl)) fun a F => ?_
          refine lx_nil ?_
          repeat (first | refine ex_then ?_ | refine ex_block ?_ | refine wp_seq ?_ | refine wp_block ?_ | refine wp_skip ?_)
          refine wp_ret ?_
          repeat (first | refine ex_thenR ?_ | refine ex_blockR ?_)
          exact sx_ret F HM (res_tmp F rfl (s := 6) rfl)
      · repeat (first | refine ex_then ?_ | refine ex_block ?_ | refine wp_seq ?_ | refine wp_block ?_ | refine wp_skip ?_)
        refine wp_region_lit ?_
        refine lx_value (v := grp P Q G H) F (wanted_none rfl _) rfl (by rfl) (o_loadG (F.ev rfl) (HM.get 0 rfl)) fun a F => ?_
        refine lx_value (v := .slice pa n cap) F (wanted_none rfl _) rfl (by rfl) (o_move (F.ev rfl)) fun a F => ?_
        refine lx_value (v := .slice av n cv) F (wanted_none rfl _) rfl (by rfl) (o_move (F.ev rfl)) fun a F => ?_
        refine lx_call F (wanted_none rfl _) rfl (by rfl) (run_callF Try.func8 (by kernel_rfl) (by rfl) (.cons (F.ev rfl) (.cons (F.ev rfl) (.cons (F.ev rfl) .nil))) _) ((thr_any P Q G H n cap n cv pa av xs vs _ hQ (r.call HM.bel HM.bel.size) (lv.rn HM (fun x hx => by simp [hx]) hvb) (by omega) hb).mono (fun e w2 h => h.2 hD)) fun a w z F => ?_
        replace HM := HM.on z
        clear z
        refine lx_value (v := .tuple #[.slice none 0 0, .int .i64 7]) F (wanted_none rfl _) rfl (by rfl) (o_move (F.ev rfl)) fun a F => ?_
        refine lx_value (v := .slice none 0 0) F (wanted_none rfl _) rfl (by rfl) (o_extract (F.ev rfl) rfl) fun a F => ?_
        refine lx_value (v := .int .i64 7) F (wanted_none rfl _) rfl (by rfl) (o_extract (F.ev rfl) rfl) fun a F => ?_
        refine lx_value (v := .slice none 0 0) F (wanted_none rfl _) rfl (by rfl) (o_assign (F.ev rfl)) fun a F => ?_
        refine lx_value (v := .int .i64 7) F (wanted_none rfl _) rfl (by rfl) (o_assign (F.ev rfl)) fun a F => ?_
        refine lx_nil ?_
        repeat (first | refine ex_then ?_ | refine ex_block ?_ | refine wp_seq ?_ | refine wp_block ?_ | refine wp_skip ?_)
        refine wp_region_lit ?_
        refine lx_value (v := .int .i64 7) F (wanted_none rfl _) rfl (by rfl) (o_move (F.ev rfl)) fun a F => ?_
        refine lx_value (v := .bool true) F (wanted_none rfl _) rfl (by rfl) (o_bin (u := .int .i64 7) (v := .int .i64 0) (fun ρ hx hy => by simp only [execOp, hx, hy]; simp [go_sem]) (F.ev rfl) rfl) fun a F => ?_
        refine lx_nil ?_
        repeat (first | refine ex_then ?_ | refine ex_block ?_ | refine wp_seq ?_ | refine wp_block ?_ | refine wp_skip ?_)
        refine wp_cond_true (F.ev rfl) ?_
        have hz0 : 0 < n := by rw [← r.1]; exact List.length_pos_iff.2 (thrB_iff.1 hb).2.2.2.1
        repeat (first | refine ex_then ?_ | refine ex_block ?_ | refine wp_seq ?_ | refine wp_block ?_ | refine wp_skip ?_)
        refine wp_region_lit ?_
        refine lx_value (v := .slice pa n cap) F (wanted_none rfl _) rfl (by rfl) (o_move (F.ev rfl)) fun a F => ?_
        refine lx_value (v := .int .i64 (n : Nat)) F (wanted_none rfl _) rfl (by rfl) (o_len (F.ev rfl)) fun a F => ?_
        refine lx_value (v := .bool false) F (wanted_none rfl _) rfl (by rfl) (o_eqlI (b := false) (decide_eq_false (by omega)) (F.ev rfl) rfl rfl) fun a F => ?_
        refine lx_value (v := .bool false) F (wanted_none rfl _) rfl (by rfl) (o_move (F.ev rfl)) fun a F => ?_
        refine lx_value (v := .int .i64 7) F (F.want (t := 68) (c := false) rfl rfl rfl (by rfl) rfl) rfl (by rfl) (o_move (F.ev rfl)) fun a F => ?_
        refine lx_value (v := .bool false) F (F.want (t := 68) (c := false) rfl rfl rfl (by rfl) rfl) rfl (by rfl) (o_bin (u := .int .i64 7) (v := .int .i64 1) (fun ρ hx hy => by simp only [execOp, hx, hy]; simp [go_sem]) (F.ev rfl) rfl) fun a F => ?_
        refine lx_value (v := .bool false) F (wanted_none rfl _) rfl (by rfl) (o_pick (b := false) (r := .bool false) (F.ev rfl) rfl (F.ev rfl) rfl) fun a F => ?_
        refine lx_value (v := .bool false) F (wanted_none rfl _) rfl (by rfl) (o_move (F.ev rfl)) fun a F => ?_
        refine lx_value (v := .int .i64 7) F (F.want (t := 72) (c := false) rfl rfl rfl (by rfl) rfl) rfl (by rfl) (o_move (F.ev rfl)) fun a F => ?_
        refine lx_value (v := .bool true) F (F.want (t := 72) (c := false) rfl rfl rfl (by rfl) rfl) rfl (by rfl) (o_bin (u := .int .i64 7) (v := .int .i64 7) (fun ρ hx hy => by simp only [execOp, hx, hy]; simp [go_sem]) (F.ev rfl) rfl) fun a F => ?_
        refine lx_value (v := .bool true) F (wanted_none rfl _) rfl (by rfl) (o_pick (b := false) (r := .bool true) (F.ev rfl) rfl (F.ev rfl) rfl) fun a F => ?_
        refine lx_value (v := .bool true) F (wanted_none rfl _) rfl (by rfl) (o_assign (F.ev rfl)) fun a F => ?_
        refine lx_nil ?_
        repeat (first | refine ex_then ?_ | refine ex_block ?_ | refine wp_seq ?_ | refine wp_block ?_ | refine wp_skip ?_)
        refine wp_ret ?_
        repeat (first | refine ex_thenR ?_ | refine ex_blockR ?_)
        exact sx_ret F HM (res_tmp F rfl (s := 6) rfl)
    · repeat (first | refine ex_then ?_ | refine ex_block ?_ | refine wp_seq ?_ | refine wp_block ?_ | refine wp_skip ?_)
      refine wp_region_lit ?_
      refine lx_value (v := grp P Q G H) F (wanted_none rfl _) rfl (by rfl) (o_loadG (F.ev rfl) (HM.get 0 rfl)) fun a F => ?_
      refine lx_value (v := .slice pa n cap) F (wanted_none rfl _) rfl (by rfl) (o_move (F.ev rfl)) fun a F => ?_
      refine lx_value (v := .slice av n cv) F (wanted_none rfl _) rfl (by rfl) (o_move (F.ev rfl)) fun a F => ?_
      refine lx_call F (wanted_none rfl _) rfl (by rfl) (run_callF Try.func8 (by kernel_rfl) (by rfl) (.cons (F.ev rfl) (.cons (F.ev rfl) (.cons (F.ev rfl) .nil))) _) (thr_no P Q G H n cap n cv pa av xs vs _ hQ (r.call HM.bel HM.bel.size) (lv.rn HM (fun x hx => by simp [hx]) hvb) (Bool.eq_false_iff.2 hb)) fun a w z F => ?_
      replace HM := HM.on z
      clear z
      refine lx_value (v := .tuple #[.slice none 0 0, .int .i64 1]) F (wanted_none rfl _) rfl (by rfl) (o_move (F.ev rfl)) fun a F => ?_
      refine lx_value (v := .slice none 0 0) F (wanted_none rfl _) rfl (by rfl) (o_extract (F.ev rfl) rfl) fun a F => ?_
      refine lx_value (v := .int .i64 1) F (wanted_none rfl _) rfl (by rfl) (o_extract (F.ev rfl) rfl) fun a F => ?_
      refine lx_value (v := .slice none 0 0) F (wanted_none rfl _) rfl (by rfl) (o_assign (F.ev rfl)) fun a F => ?_
      refine lx_value (v := .int .i64 1) F (wanted_none rfl _) rfl (by rfl) (o_assign (F.ev rfl)) fun a F => ?_
      refine lx_nil ?_
      repeat (first | refine ex_then ?_ | refine ex_block ?_ | refine wp_seq ?_ | refine wp_block ?_ | refine wp_skip ?_)
      refine wp_region_lit ?_
      refine lx_value (v := .int .i64 1) F (wanted_none rfl _) rfl (by rfl) (o_move (F.ev rfl)) fun a F => ?_
      refine lx_value (v := .bool true) F (wanted_none rfl _) rfl (by rfl) (o_bin (u := .int .i64 1) (v := .int .i64 0) (fun ρ hx hy => by simp only [execOp, hx, hy]; simp [go_sem]) (F.ev rfl) rfl) fun a F => ?_
      refine lx_nil ?_
      repeat (first | refine ex_then ?_ | refine ex_block ?_ | refine wp_seq ?_ | refine wp_block ?_ | refine wp_skip ?_)
      refine wp_cond_true (F.ev rfl) ?_
      by_cases hz0 : n = 0
      · repeat (first | refine ex_then ?_ | refine ex_block ?_ | refine wp_seq ?_ | refine wp_block ?_ | refine wp_skip ?_)
        refine wp_region_lit ?_
        refine lx_value (v := .slice pa n cap) F (wanted_none rfl _) rfl (by rfl) (o_move (F.ev rfl)) fun a F => ?_
        refine lx_value (v := .int .i64 (n : Nat)) F (wanted_none rfl _) rfl (by rfl) (o_len (F.ev rfl)) fun a F => ?_
        refine lx_value (v := .bool true) F (wanted_none rfl _) rfl (by rfl) (o_eqlI (b := true) (decide_eq_true (by omega)) (F.ev rfl) rfl rfl) fun a F => ?_
        refine lx_value (v := .bool true) F (wanted_none rfl _) rfl (by rfl) (o_move (F.ev rfl)) fun a F => ?_
        refine lx_pass F (F.want (t := 68) (c := true) rfl rfl rfl (by rfl) rfl) rfl (by rfl) fun a F => ?_
        refine lx_pass F (F.want (t := 68) (c := true) rfl rfl rfl (by rfl) rfl) rfl (by rfl) fun a F => ?_
        refine lx_value (v := .bool true) F (wanted_none rfl _) rfl (by rfl) (o_pick (b := true) (r := .bool true) (F.ev rfl) rfl (F.ev rfl) rfl) fun a F => ?_
        refine lx_value (v := .bool true) F (wanted_none rfl _) rfl (by rfl) (o_move (F.ev rfl)) fun a F => ?_
        refine lx_pass F (F.want (t := 72) (c := true) rfl rfl rfl (by rfl) rfl) rfl (by rfl) fun a F => ?_
        refine lx_pass F (F.want (t := 72) (c := true) rfl rfl rfl (by rfl) rfl) rfl (by rfl) fun a F => ?_
        refine lx_value (v := .bool true) F (wanted_none rfl _) rfl (by rfl) (o_pick (b := true) (r := .bool true) (F.ev rfl) rfl (F.ev rfl) rfl) fun a F => ?_
        refine lx_value (v := .bool true) F (wanted_none rfl _) rfl (by rfl) (o_assign (F.ev rfl)) fun a F => ?_
        refine lx_nil ?_
        repeat (first | refine ex_then ?_ | refine ex_block ?_ | refine wp_seq ?_ | refine wp_block ?_ | refine wp_skip ?_)
        refine wp_ret ?_
        repeat (first | refine ex_thenR ?_ | refine ex_blockR ?_)
        exact sx_ret F HM (res_tmp F rfl (s := 6) rfl)
      · repeat (first | refine ex_then ?_ | refine ex_block ?_ | refine wp_seq ?_ | refine wp_block ?_ | refine wp_skip ?_)
        refine wp_region_lit ?_
        refine lx_value (v := .slice pa n cap) F (wanted_none rfl _) rfl (by rfl) (o_move (F.ev rfl)) fun a F => ?_
        refine lx_value (v := .int .i64 (n : Nat)) F (wanted_none rfl _) rfl (by rfl) (o_len (F.ev rfl)) fun a F => ?_
        refine lx_value (v := .bool false) F (wanted_none rfl _) rfl (by rfl) (o_eqlI (b := false) (decide_eq_false (by omega)) (F.ev rfl) rfl rfl) fun a F => ?_
        refine lx_value (v := .bool false) F (wanted_none rfl _) rfl (by rfl) (o_move (F.ev rfl)) fun a F => ?_
        refine lx_value (v := .int .i64 1) F (F.want (t := 68) (c := false) rfl rfl rfl (by rfl) rfl) rfl (by rfl) (o_move (F.ev rfl)) fun a F => ?_
        refine lx_value (v := .bool true) F (F.want (t := 68) (c := false) rfl rfl rfl (by rfl) rfl) rfl (by rfl) (o_bin (u := .int .i64 1) (v := .int .i64 1) (fun ρ hx hy => by simp only [execOp, hx, hy]; simp [go_sem]) (F.ev rfl) rfl) fun a F => ?_
        refine lx_value (v := .bool true) F (wanted_none rfl _) rfl (by rfl) (o_pick (b := false) (r := .bool true) (F.ev rfl) rfl (F.ev rfl) rfl) fun a F => ?_
        refine lx_value (v := .bool true) F (wanted_none rfl _) rfl (by rfl) (o_move (F.ev rfl)) fun a F => ?_
        refine lx_pass F (F.want (t := 72) (c := true) rfl rfl rfl (by rfl) rfl) rfl (by rfl) fun a F => ?_
        refine lx_pass F (F.want (t := 72) (c := true) rfl rfl rfl (by rfl) rfl) rfl (by rfl) fun a F => ?_
        refine lx_value (v := .bool true) F (wanted_none rfl _) rfl (by rfl) (o_pick (b := true) (r := .bool true) (F.ev rfl) rfl (F.ev rfl) rfl) fun a F => ?_
        refine lx_value (v := .bool true) F (wanted_none rfl _) rfl (by rfl) (o_assign (F.ev rfl)) fun a F => ?_
        refine lx_nil ?_
        repeat (first | refine ex_then ?_ | refine ex_block ?_ | refine wp_seq ?_ | refine wp_block ?_ | refine wp_skip ?_)
        refine wp_ret ?_
        repeat (first | refine ex_thenR ?_ | refine ex_blockR ?_)
        exact sx_ret F HM (res_tmp F rfl (s := 6) rfl)

theorem pbk_walk (P Q G H k capp n cap : Nat) (pp pa : Option Addr) (ps xs : List Nat) (w0 : World) (hQ : Q < 2 ^ 256) (rp : RN w0.heap.size w0 pp k capp ps) (r : RN w0.heap.size w0 pa n cap xs) : Calls Try.prog 4 #[grp P Q G H, .slice pp k capp, .slice pa n cap] w0 fun e w' => e = .returned (.bool true) ∧ Below w0.heap.size w0 w' := by
  by_cases hk : 20 < k
  · exact pbk_l1 P Q G H k capp n cap pp pa ps xs w0 hQ rp r hk
  by_cases hn : 20 < n
  · exact pbk_l2 P Q G H k capp n cap pp pa ps xs w0 hQ rp r hk hn
  by_cases hl : n < k
  · exact pbk_l3 P Q G H k capp n cap pp pa ps xs w0 hQ rp r hk hn hl
  exact pbk_ok P Q G H k capp n cap pp pa ps xs w0 hQ rp r (by omega) (by omega) (by omega)
end Go.Proofs.Ytfjploahkodekaa
