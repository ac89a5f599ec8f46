/-
 groups.Check: what it answers.
-/
import Derived.Deep.Cut
import Derived.Test.YtbggihkigblnfaaWAdd
import Derived.Test.YtbggihkigblnfaaWAlive7
import Derived.Test.YtbggihkigblnfaaWGIn
import Derived.Test.YtbggihkigblnfaaWSxF
import Derived.Test.YtbggihkigblnfaaWTree
import Derived.Test.YtbggihkigblnfaaWWide
namespace Go.Proofs.Ytbggihkigblnfaa
set_option maxRecDepth 100000
open Go.RowKit
set_option linter.unusedSimpArgs false
set_option linter.unusedVariables false
attribute [local go_sem ↓] Go.wp_at_zero Go.wp_at_succ

set_option maxRecDepth 100000 in
set_option maxHeartbeats 8000000 in
theorem generates_one (P Q G H A : Nat)
  (hA : A < 2 ^ 256)
  (h1 : decide (A = 1) = true)
  (w : World) : Calls Try.prog 78 #[grp P Q G H, num A] w fun e w' => e = .returned (.bool false) ∧ Below w.heap.size w w' := by
 refine sx_enter (args := [grp P Q G H, num A]) Try.func78 rfl Try.ntmps78 (by rfl) fun a F HM => ?_
 repeat (first | refine ex_then ?_ | refine ex_block ?_ | refine wp_seq ?_ | refine wp_block ?_ | refine wp_skip ?_)
 refine wp_region_lit ?_
 refine lx_new F HM (wanted_none rfl _) rfl (by rfl) (o_boxG (F.ev rfl)) fun a w gr F HM => ?_
 refine lx_new F HM (wanted_none rfl _) rfl (by rfl) (o_boxN (F.ev rfl)) fun a w ga F HM => ?_
 refine lx_value (v := .bool false) F (wanted_none rfl _) rfl (by rfl) (o_assign rfl) fun a F => ?_
 refine lx_nil ?_
 repeat (first | refine ex_then ?_ | refine ex_block ?_ | refine wp_seq ?_ | refine wp_block ?_ | refine wp_skip ?_)
 try simp only [List.append_eq, List.cons_append, List.nil_append]
 refine sx_drawn [⟨0, 5, [], .val (num A), true⟩,
   ⟨1, 6, [0], .val (num 1), false⟩,
   ⟨2, 7, [0, 1], .val (.bool false), true⟩,
   ⟨3, 8, [2], .val (.bool false), true⟩,
   ⟨4, 9, [3], .val undef, true⟩,
   ⟨5, 10, [3, 4], .val undef, true⟩,
   ⟨6, 11, [3, 4, 5], .val undef, true⟩,
   ⟨7, 12, [3, 6], .val (.bool false), true⟩] 1 F HM (by kernel_rfl) (by rfl) (by rfl) ?_ ?_ ?_ ?_ ?_ ?_ ?_
 ·kernel_rfl
 ·exact of_decide_eq_true (by kernel_rfl)
 ·(repeat refine all_cons ⟨_, by rfl, by rfl⟩ ?_); exact all_nil
 ·kernel_rfl
 ·(repeat (refine all_cons ?_ ?_; rotate_left)); exact all_nil
  ·exact coreS _ _ _ _ _ _ _ (by rfl) (by rfl) (wants_none) (fun ρ w kn hs => o_loadN (kn _ _ (F.old (by rfl) rfl)) (hs.get 0 rfl))
  ·exact core_pureAs _ (by rfl)
  ·exact coreS _ _ _ _ _ _ _ (by rfl) (by rfl) (wants_none) (fun ρ w kn hs => o_neqN hA (show 1 < 2 ^ 256 by decide) h1 (kn _ _ (kc 0 5)) (kn _ _ (kc 1 6)))
  ·exact coreS _ _ _ _ _ _ _ (by rfl) (by rfl) (wants_none) (fun ρ w kn hs => o_move (kn _ _ (kc 2 7)))
  ·exact coreG_skip _ _ _ _ _ _ (by rfl) (by rfl) (wc 3 8 3 (kc 3 8))
  ·exact coreG_skip _ _ _ _ _ _ (by rfl) (by rfl) (wc 3 8 3 (kc 3 8))
  ·exact coreG_skip _ _ _ _ _ _ (by rfl) (by rfl) (wc 3 8 3 (kc 3 8))
  ·exact coreS _ _ _ _ _ _ _ (by rfl) (by rfl) (wants_none) (fun ρ w kn hs => o_pick (b := false) (r := .bool false) (kn _ _ (kc 3 8)) (kn _ _ (kc 6 11)) (kn _ _ (known_const _)) rfl)
 ·(repeat (refine all_cons ?_ ?_; rotate_left)); exact all_nil
  ·exact sA
  ·exact fun _ => coreG_call _ 36 _ _ [.const (.int .u64 1)] _ _ _ _ _ _ _ (by rfl) Try.func36 (by kernel_rfl) (by rfl) (by rfl) (wants_none) (.cons (known_const _) .nil) ((fun w => of_any 1 (by decide) w))
  ·exact sA
  ·exact sA
  ·exact sA
  ·exact sA
  ·exact sA
  ·exact sA
 intro gs rs a w hgs hrs F HM
 obtain rfl := nl0 rs hrs
 clear hrs
 obtain rfl := nl0 gs hgs
 clear hgs
 refine sx_assign (i := 8) (d := 4) (x := .tmp 12) (v := .bool false) F (HM) (by kernel_rfl) (by rfl) (by rfl) (F.ev rfl) fun a F => ?_
 refine sx_done (by kernel_rfl) ?_ _
 repeat (first | refine ex_then ?_ | refine ex_block ?_ | refine wp_seq ?_ | refine wp_block ?_ | refine wp_skip ?_)
 refine wp_ret ?_
 repeat (first | refine ex_thenR ?_ | refine ex_blockR ?_)
 exact sx_ret F HM (res_tmp F rfl (s := 4) rfl)

set_option maxRecDepth 100000 in
set_option maxHeartbeats 8000000 in
theorem generates_in (P Q G H A : Nat) (b : Bool)
  (hA : A < 2 ^ 256)
  (h1 : decide (A = 1) = false)
  (c1 : ∀ w, Calls Try.prog 20 #[grp P Q G H, num A] w fun e w' => e = .returned (.bool b) ∧ Below w.heap.size w w')
  (w : World) : Calls Try.prog 78 #[grp P Q G H, num A] w fun e w' => e = .returned (.bool b) ∧ Below w.heap.size w w' := by
 refine sx_enter (args := [grp P Q G H, num A]) Try.func78 rfl Try.ntmps78 (by rfl) fun a F HM => ?_
 repeat (first | refine ex_then ?_ | refine ex_block ?_ | refine wp_seq ?_ | refine wp_block ?_ | refine wp_skip ?_)
 refine wp_region_lit ?_
 refine lx_new F HM (wanted_none rfl _) rfl (by rfl) (o_boxG (F.ev rfl)) fun a w gr F HM => ?_
 refine lx_new F HM (wanted_none rfl _) rfl (by rfl) (o_boxN (F.ev rfl)) fun a w ga F HM => ?_
 refine lx_value (v := .bool false) F (wanted_none rfl _) rfl (by rfl) (o_assign rfl) fun a F => ?_
 refine lx_nil ?_
 repeat (first | refine ex_then ?_ | refine ex_block ?_ | refine wp_seq ?_ | refine wp_block ?_ | refine wp_skip ?_)
 try simp only [List.append_eq, List.cons_append, List.nil_append]
 refine sx_drawn [⟨0, 5, [], .val (num A), true⟩,
   ⟨1, 6, [0], .val (num 1), false⟩,
   ⟨2, 7, [0, 1], .val (.bool true), true⟩,
   ⟨3, 8, [2], .val (.bool true), true⟩,
   ⟨4, 9, [3], .val (grp P Q G H), true⟩,
   ⟨5, 10, [3, 4], .val (num A), true⟩,
   ⟨6, 11, [3, 4, 5], .val (.bool b), false⟩,
   ⟨7, 12, [3, 6], .val (.bool b), true⟩] 1 F HM (by kernel_rfl) (by rfl) (by rfl) ?_ ?_ ?_ ?_ ?_ ?_ ?_
 ·kernel_rfl
 ·exact of_decide_eq_true (by kernel_rfl)
 ·(repeat refine all_cons ⟨_, by rfl, by rfl⟩ ?_); exact all_nil
 ·kernel_rfl
 ·(repeat (refine all_cons ?_ ?_; rotate_left)); exact all_nil
  ·exact coreS _ _ _ _ _ _ _ (by rfl) (by rfl) (wants_none) (fun ρ w kn hs => o_loadN (kn _ _ (F.old (by rfl) rfl)) (hs.get 0 rfl))
  ·exact core_pureAs _ (by rfl)
  ·exact coreS _ _ _ _ _ _ _ (by rfl) (by rfl) (wants_none) (fun ρ w kn hs => o_neqN hA (show 1 < 2 ^ 256 by decide) h1 (kn _ _ (kc 0 5)) (kn _ _ (kc 1 6)))
  ·exact coreS _ _ _ _ _ _ _ (by rfl) (by rfl) (wants_none) (fun ρ w kn hs => o_move (kn _ _ (kc 2 7)))
  ·exact coreS _ _ _ _ _ _ _ (by rfl) (by rfl) (wc 3 8 3 (kc 3 8)) (fun ρ w kn hs => o_loadG (kn _ _ (F.old (by rfl) rfl)) (hs.get 1 rfl))
  ·exact coreS _ _ _ _ _ _ _ (by rfl) (by rfl) (wc 3 8 3 (kc 3 8)) (fun ρ w kn hs => o_loadN (kn _ _ (F.old (by rfl) rfl)) (hs.get 0 rfl))
  ·exact core_pureAs _ (by rfl)
  ·exact coreS _ _ _ _ _ _ _ (by rfl) (by rfl) (wants_none) (fun ρ w kn hs => o_pick (b := true) (r := .bool b) (kn _ _ (kc 3 8)) (kn _ _ (kc 6 11)) (kn _ _ (known_const _)) rfl)
 ·(repeat (refine all_cons ?_ ?_; rotate_left)); exact all_nil
  ·exact sA
  ·exact fun _ => coreG_call _ 36 _ _ [.const (.int .u64 1)] _ _ _ _ _ _ _ (by rfl) Try.func36 (by kernel_rfl) (by rfl) (by rfl) (wants_none) (.cons (known_const _) .nil) ((fun w => of_any 1 (by decide) w))
  ·exact sA
  ·exact sA
  ·exact sA
  ·exact sA
  ·exact fun _ => coreG_call _ 20 _ _ [.tmp 9, .tmp 10] _ _ _ _ _ _ _ (by rfl) Try.func20 (by kernel_rfl) (by rfl) (by rfl) (wc 3 8 3 (kc 3 8)) (.cons (kc 4 9) (.cons (kc 5 10) .nil)) (c1)
  ·exact sA
 intro gs rs a w hgs hrs F HM
 obtain rfl := nl0 rs hrs
 clear hrs
 obtain rfl := nl0 gs hgs
 clear hgs
 refine sx_assign (i := 8) (d := 4) (x := .tmp 12) (v := .bool b) F (HM) (by kernel_rfl) (by rfl) (by rfl) (F.ev rfl) fun a F => ?_
 refine sx_done (by kernel_rfl) ?_ _
 repeat (first | refine ex_then ?_ | refine ex_block ?_ | refine wp_seq ?_ | refine wp_block ?_ | refine wp_skip ?_)
 refine wp_ret ?_
 repeat (first | refine ex_thenR ?_ | refine ex_blockR ?_)
 exact sx_ret F HM (res_tmp F rfl (s := 4) rfl)

/-- of the group, and not 1 -/
def genB (P Q A : Nat) : Bool := decide (A ≠ 1) && inB P Q A
theorem generates_any (P Q G H A : Nat) (hP : P < 2 ^ 256) (hQ : Q < 2 ^ 256) (hA : A < 2 ^ 256) (w : World) : Calls Try.prog 78 #[grp P Q G H, num A] w fun e w' => e = .returned (.bool (genB P Q A)) ∧ Below w.heap.size w w' := by
 by_cases h : A = 1
 ·rw [show genB P Q A = false from by simp [genB, h]]
  exact generates_one P Q G H A hA (decide_eq_true h) w
 ·rw [show genB P Q A = inB P Q A from by simp [genB, h]]
  exact generates_in P Q G H A (inB P Q A) hA (decide_eq_false h) (gin_any P Q G H A hP hQ hA) w
set_option maxRecDepth 100000 in
set_option maxHeartbeats 8000000 in
theorem goes_no (q p S c D R : Nat)
  (c1 : ∀ w, Calls Try.prog 52 #[num p, num 1] w fun e w' => e = .returned (.tuple #[num S, .int .u64 (c : Nat)]) ∧ Below w.heap.size w w')
  (c2 : ∀ w, Calls Try.prog 24 #[num S, num q] w fun e w' => e = .returned (.tuple #[num D, num R, .int .i64 1]) ∧ Below w.heap.size w w')
  (w : World) : Calls Try.prog 74 #[num q, num p] w fun e w' => e = .returned (.bool false) ∧ Below w.heap.size w w' := by
 refine sx_enter (args := [num q, num p]) Try.func74 rfl Try.ntmps74 (by rfl) fun a F HM => ?_
 repeat (first | refine ex_then ?_ | refine ex_block ?_ | refine wp_seq ?_ | refine wp_block ?_ | refine wp_skip ?_)
 refine wp_region_lit ?_
 refine lx_new F HM (wanted_none rfl _) rfl (by rfl) (o_boxN (F.ev rfl)) fun a w gq F HM => ?_
 refine lx_new F HM (wanted_none rfl _) rfl (by rfl) (o_boxN (F.ev rfl)) fun a w gp F HM => ?_
 refine lx_value (v := .bool false) F (wanted_none rfl _) rfl (by rfl) (o_assign rfl) fun a F => ?_
 refine lx_nil ?_
 repeat (first | refine ex_then ?_ | refine ex_block ?_ | refine wp_seq ?_ | refine wp_block ?_ | refine wp_skip ?_)
 try simp only [List.append_eq, List.cons_append, List.nil_append]
 refine sx_drawn [⟨0, 11, [], .val (num p), true⟩,
   ⟨6, 5, [], .cell 24 (ncs 0), false⟩,
   ⟨1, 12, [0], .val (num 1), false⟩,
   ⟨2, 13, [0, 2], .val (.tuple #[num S, .int .u64 (c : Nat)]), false⟩,
   ⟨3, 10, [3], .val (.tuple #[num S, .int .u64 (c : Nat)]), true⟩,
   ⟨4, 14, [4], .val (num S), true⟩,
   ⟨5, 15, [4, 5], .val (.int .u64 (c : Nat)), true⟩] 2 F HM (by kernel_rfl) (by rfl) (by rfl) ?_ ?_ ?_ ?_ ?_ ?_ ?_
 ·kernel_rfl
 ·exact of_decide_eq_true (by kernel_rfl)
 ·(repeat refine all_cons ⟨_, by rfl, by rfl⟩ ?_); exact all_nil
 ·kernel_rfl
 ·(repeat (refine all_cons ?_ ?_; rotate_left)); exact all_nil
  ·exact coreS _ _ _ _ _ _ _ (by rfl) (by rfl) (wants_none) (fun ρ w kn hs => o_loadN (kn _ _ (F.old (by rfl) rfl)) (hs.get 0 rfl))
  ·exact core_pureAs _ (by rfl)
  ·exact core_pureAs _ (by rfl)
  ·exact core_pureAs _ (by rfl)
  ·exact coreS _ _ _ _ _ _ _ (by rfl) (by rfl) (wants_none) (fun ρ w kn hs => o_move (kn _ _ (kc 3 13)))
  ·exact coreS _ _ _ _ _ _ _ (by rfl) (by rfl) (wants_none) (fun ρ w kn hs => o_extract (kn _ _ (kc 4 10)) rfl)
  ·exact coreS _ _ _ _ _ _ _ (by rfl) (by rfl) (wants_none) (fun ρ w kn hs => o_extract (kn _ _ (kc 4 10)) rfl)
 ·(repeat (refine all_cons ?_ ?_; rotate_left)); exact all_nil
  ·exact sA
  ·exact fun _ => core_new _ _ _ _ _ _ _ _ (by rfl) (by rfl) (Nat.le_refl _) (fun ρ w => o_allocN)
  ·exact fun _ => coreG_call _ 36 _ _ [.const (.int .u64 1)] _ _ _ _ _ _ _ (by rfl) Try.func36 (by kernel_rfl) (by rfl) (by rfl) (wants_none) (.cons (known_const _) .nil) ((fun w => of_any 1 (by decide) w))
  ·exact fun _ => coreG_call _ 52 _ _ [.tmp 11, .tmp 12] _ _ _ _ _ _ _ (by rfl) Try.func52 (by kernel_rfl) (by rfl) (by rfl) (wants_none) (.cons (kc 0 11) (.cons (kc 2 12) .nil)) (c1)
  ·exact sA
  ·exact sA
  ·exact sA
 intro gs rs a w hgs hrs F HM
 obtain rfl := nl0 rs hrs
 clear hrs
 obtain ⟨gs, rfl⟩ := nl1 gs hgs
 clear hgs
 refine sx_store (i := 7) HM (by kernel_rfl) (by rfl) rfl rfl (k := 0) rfl (o_storeN (F.ev rfl) (F.ev rfl) (HM.get 0 rfl)) (M2 := [(gs, 24, ncs S), (gp, 24, ncs p), (gq, 24, ncs q)]) rfl (fun _ h => h.tail (A := [(gs, 24, ncs S)])) fun w HM => ?_
 refine sx_assign (i := 8) (d := 6) (x := .tmp 15) (v := .int .u64 (c : Nat)) F (HM.tail (A := [(gs, 24, ncs S)])) (by kernel_rfl) (by rfl) (by rfl) (F.ev rfl) fun a F => ?_
 refine sx_done (by kernel_rfl) ?_ _
 repeat (first | refine ex_then ?_ | refine ex_block ?_ | refine wp_seq ?_ | refine wp_block ?_ | refine wp_skip ?_)
 refine wp_region_lit ?_
 refine lx_value (v := num S) F (wanted_none rfl _) rfl (by rfl) (o_loadN (F.ev rfl) (HM.get 0 rfl)) fun a F => ?_
 refine lx_value (v := num q) F (wanted_none rfl _) rfl (by rfl) (o_loadN (F.ev rfl) (HM.get 2 rfl)) fun a F => ?_
 refine lx_call F (wanted_none rfl _) rfl (by rfl) (run_callF Try.func24 (by kernel_rfl) (by rfl) (.cons (F.ev rfl) (.cons (F.ev rfl) .nil)) _) (c2 _) fun a w z F => ?_
 replace HM := HM.on z
 clear z
 refine lx_value (v := .tuple #[num D, num R, .int .i64 1]) F (wanted_none rfl _) rfl (by rfl) (o_move (F.ev rfl)) fun a F => ?_
 refine lx_value (v := num D) F (wanted_none rfl _) rfl (by rfl) (o_extract (F.ev rfl) rfl) fun a F => ?_
 refine lx_value (v := num R) F (wanted_none rfl _) rfl (by rfl) (o_extract (F.ev rfl) rfl) fun a F => ?_
 refine lx_value (v := .int .i64 1) F (wanted_none rfl _) rfl (by rfl) (o_extract (F.ev rfl) rfl) fun a F => ?_
 refine lx_new F HM (wanted_none rfl _) rfl (by rfl) (o_allocN) fun a w gd F HM => ?_
 refine lx_new F HM (wanted_none rfl _) rfl (by rfl) (o_allocN) fun a w gu F HM => ?_
 refine lx_store F HM (wanted_none rfl _) rfl (k := 1) rfl (o_storeN (F.ev rfl) (F.ev rfl) (HM.get 1 rfl)) (M2 := [(gu, 24, ncs 0), (gd, 24, ncs D), (gs, 24, ncs S), (gp, 24, ncs p), (gq, 24, ncs q)]) rfl fun w HM => ?_
 refine lx_store F HM (wanted_none rfl _) rfl (k := 0) rfl (o_storeN (F.ev rfl) (F.ev rfl) (HM.get 0 rfl)) (M2 := [(gu, 24, ncs R), (gd, 24, ncs D), (gs, 24, ncs S), (gp, 24, ncs p), (gq, 24, ncs q)]) rfl fun w HM => ?_
 refine lx_value (v := .int .i64 1) F (wanted_none rfl _) rfl (by rfl) (o_assign (F.ev rfl)) fun a F => ?_
 refine lx_nil ?_
 repeat (first | refine ex_then ?_ | refine ex_block ?_ | refine wp_seq ?_ | refine wp_block ?_ | refine wp_skip ?_)
 refine wp_region_lit ?_
 refine lx_value (v := .int .i64 1) F (wanted_none rfl _) rfl (by rfl) (o_move (F.ev rfl)) fun a F => ?_
 refine lx_value (v := .bool false) F (wanted_none rfl _) rfl (by rfl) (o_bin (u := .int .i64 1) (v := .int .i64 0) (fun ρ hx hy => by simp only [execOp, hx, hy]; simp [go_sem]) (F.ev rfl) rfl) fun a F => ?_
 refine lx_value (v := .bool false) F (wanted_none rfl _) rfl (by rfl) (o_move (F.ev rfl)) fun a F => ?_
 refine lx_pass F (F.want (t := 25) (c := false) rfl rfl rfl (by rfl) rfl) rfl (by rfl) fun a F => ?_
 refine lx_pass F (F.want (t := 25) (c := false) rfl rfl rfl (by rfl) rfl) rfl (by rfl) fun a F => ?_
 refine lx_pass F (F.want (t := 25) (c := false) rfl rfl rfl (by rfl) rfl) rfl (by rfl) fun a F => ?_
 refine lx_value (v := .bool false) F (wanted_none rfl _) rfl (by rfl) (o_pick (b := false) (r := .bool false) (F.ev rfl) (F.ev rfl) rfl rfl) fun a F => ?_
 refine lx_value (v := .bool false) F (wanted_none rfl _) rfl (by rfl) (o_assign (F.ev rfl)) fun a F => ?_
 refine lx_nil ?_
 repeat (first | refine ex_then ?_ | refine ex_block ?_ | refine wp_seq ?_ | refine wp_block ?_ | refine wp_skip ?_)
 refine wp_ret ?_
 repeat (first | refine ex_thenR ?_ | refine ex_blockR ?_)
 exact sx_ret F HM (res_tmp F rfl (s := 4) rfl)

set_option maxRecDepth 100000 in
set_option maxHeartbeats 8000000 in
theorem goes_true (q p S c D R : Nat)
  (c1 : ∀ w, Calls Try.prog 52 #[num p, num 1] w fun e w' => e = .returned (.tuple #[num S, .int .u64 (c : Nat)]) ∧ Below w.heap.size w w')
  (c2 : ∀ w, Calls Try.prog 24 #[num S, num q] w fun e w' => e = .returned (.tuple #[num D, num R, .int .i64 0]) ∧ Below w.heap.size w w')
  (hR : R < 2 ^ 256)
  (h0 : decide (R = 0) = true)
  (w : World) : Calls Try.prog 74 #[num q, num p] w fun e w' => e = .returned (.bool true) ∧ Below w.heap.size w w' := by
 refine sx_enter (args := [num q, num p]) Try.func74 rfl Try.ntmps74 (by rfl) fun a F HM => ?_
 repeat (first | refine ex_then ?_ | refine ex_block ?_ | refine wp_seq ?_ | refine wp_block ?_ | refine wp_skip ?_)
 refine wp_region_lit ?_
 refine lx_new F HM (wanted_none rfl _) rfl (by rfl) (o_boxN (F.ev rfl)) fun a w gq F HM => ?_
 refine lx_new F HM (wanted_none rfl _) rfl (by rfl) (o_boxN (F.ev rfl)) fun a w gp F HM => ?_
 refine lx_value (v := .bool false) F (wanted_none rfl _) rfl (by rfl) (o_assign rfl) fun a F => ?_
 refine lx_nil ?_
 repeat (first | refine ex_then ?_ | refine ex_block ?_ | refine wp_seq ?_ | refine wp_block ?_ | refine wp_skip ?_)
 try simp only [List.append_eq, List.cons_append, List.nil_append]
 refine sx_drawn [⟨0, 11, [], .val (num p), true⟩,
   ⟨6, 5, [], .cell 24 (ncs 0), false⟩,
   ⟨1, 12, [0], .val (num 1), false⟩,
   ⟨2, 13, [0, 2], .val (.tuple #[num S, .int .u64 (c : Nat)]), false⟩,
   ⟨3, 10, [3], .val (.tuple #[num S, .int .u64 (c : Nat)]), true⟩,
   ⟨4, 14, [4], .val (num S), true⟩,
   ⟨5, 15, [4, 5], .val (.int .u64 (c : Nat)), true⟩] 2 F HM (by kernel_rfl) (by rfl) (by rfl) ?_ ?_ ?_ ?_ ?_ ?_ ?_
 ·kernel_rfl
 ·exact of_decide_eq_true (by kernel_rfl)
 ·(repeat refine all_cons ⟨_, by rfl, by rfl⟩ ?_); exact all_nil
 ·kernel_rfl
 ·(repeat (refine all_cons ?_ ?_; rotate_left)); exact all_nil
  ·exact coreS _ _ _ _ _ _ _ (by rfl) (by rfl) (wants_none) (fun ρ w kn hs => o_loadN (kn _ _ (F.old (by rfl) rfl)) (hs.get 0 rfl))
  ·exact core_pureAs _ (by rfl)
  ·exact core_pureAs _ (by rfl)
  ·exact core_pureAs _ (by rfl)
  ·exact coreS _ _ _ _ _ _ _ (by rfl) (by rfl) (wants_none) (fun ρ w kn hs => o_move (kn _ _ (kc 3 13)))
  ·exact coreS _ _ _ _ _ _ _ (by rfl) (by rfl) (wants_none) (fun ρ w kn hs => o_extract (kn _ _ (kc 4 10)) rfl)
  ·exact coreS _ _ _ _ _ _ _ (by rfl) (by rfl) (wants_none) (fun ρ w kn hs => o_extract (kn _ _ (kc 4 10)) rfl)
 ·(repeat (refine all_cons ?_ ?_; rotate_left)); exact all_nil
  ·exact sA
  ·exact fun _ => core_new _ _ _ _ _ _ _ _ (by rfl) (by rfl) (Nat.le_refl _) (fun ρ w => o_allocN)
  ·exact fun _ => coreG_call _ 36 _ _ [.const (.int .u64 1)] _ _ _ _ _ _ _ (by rfl) Try.func36 (by kernel_rfl) (by rfl) (by rfl) (wants_none) (.cons (known_const _) .nil) ((fun w => of_any 1 (by decide) w))
  ·exact fun _ => coreG_call _ 52 _ _ [.tmp 11, .tmp 12] _ _ _ _ _ _ _ (by rfl) Try.func52 (by kernel_rfl) (by rfl) (by rfl) (wants_none) (.cons (kc 0 11) (.cons (kc 2 12) .nil)) (c1)
  ·exact sA
  ·exact sA
  ·exact sA
 intro gs rs a w hgs hrs F HM
 obtain rfl := nl0 rs hrs
 clear hrs
 obtain ⟨gs, rfl⟩ := nl1 gs hgs
 clear hgs
 refine sx_store (i := 7) HM (by kernel_rfl) (by rfl) rfl rfl (k := 0) rfl (o_storeN (F.ev rfl) (F.ev rfl) (HM.get 0 rfl)) (M2 := [(gs, 24, ncs S), (gp, 24, ncs p), (gq, 24, ncs q)]) rfl (fun _ h => h.tail (A := [(gs, 24, ncs S)])) fun w HM => ?_
 refine sx_assign (i := 8) (d := 6) (x := .tmp 15) (v := .int .u64 (c : Nat)) F (HM.tail (A := [(gs, 24, ncs S)])) (by kernel_rfl) (by rfl) (by rfl) (F.ev rfl) fun a F => ?_
 refine sx_done (by kernel_rfl) ?_ _
 repeat (first | refine ex_then ?_ | refine ex_block ?_ | refine wp_seq ?_ | refine wp_block ?_ | refine wp_skip ?_)
 refine wp_region_lit ?_
 refine lx_value (v := num S) F (wanted_none rfl _) rfl (by rfl) (o_loadN (F.ev rfl) (HM.get 0 rfl)) fun a F => ?_
 refine lx_value (v := num q) F (wanted_none rfl _) rfl (by rfl) (o_loadN (F.ev rfl) (HM.get 2 rfl)) fun a F => ?_
 refine lx_call F (wanted_none rfl _) rfl (by rfl) (run_callF Try.func24 (by kernel_rfl) (by rfl) (.cons (F.ev rfl) (.cons (F.ev rfl) .nil)) _) (c2 _) fun a w z F => ?_
 replace HM := HM.on z
 clear z
 refine lx_value (v := .tuple #[num D, num R, .int .i64 0]) F (wanted_none rfl _) rfl (by rfl) (o_move (F.ev rfl)) fun a F => ?_
 refine lx_value (v := num D) F (wanted_none rfl _) rfl (by rfl) (o_extract (F.ev rfl) rfl) fun a F => ?_
 refine lx_value (v := num R) F (wanted_none rfl _) rfl (by rfl) (o_extract (F.ev rfl) rfl) fun a F => ?_
 refine lx_value (v := .int .i64 0) F (wanted_none rfl _) rfl (by rfl) (o_extract (F.ev rfl) rfl) fun a F => ?_
 refine lx_new F HM (wanted_none rfl _) rfl (by rfl) (o_allocN) fun a w gd F HM => ?_
 refine lx_new F HM (wanted_none rfl _) rfl (by rfl) (o_allocN) fun a w gu F HM => ?_
 refine lx_store F HM (wanted_none rfl _) rfl (k := 1) rfl (o_storeN (F.ev rfl) (F.ev rfl) (HM.get 1 rfl)) (M2 := [(gu, 24, ncs 0), (gd, 24, ncs D), (gs, 24, ncs S), (gp, 24, ncs p), (gq, 24, ncs q)]) rfl fun w HM => ?_
 refine lx_store F HM (wanted_none rfl _) rfl (k := 0) rfl (o_storeN (F.ev rfl) (F.ev rfl) (HM.get 0 rfl)) (M2 := [(gu, 24, ncs R), (gd, 24, ncs D), (gs, 24, ncs S), (gp, 24, ncs p), (gq, 24, ncs q)]) rfl fun w HM => ?_
 refine lx_value (v := .int .i64 0) F (wanted_none rfl _) rfl (by rfl) (o_assign (F.ev rfl)) fun a F => ?_
 refine lx_nil ?_
 repeat (first | refine ex_then ?_ | refine ex_block ?_ | refine wp_seq ?_ | refine wp_block ?_ | refine wp_skip ?_)
 refine wp_region_lit ?_
 refine lx_value (v := .int .i64 0) F (wanted_none rfl _) rfl (by rfl) (o_move (F.ev rfl)) fun a F => ?_
 refine lx_value (v := .bool true) F (wanted_none rfl _) rfl (by rfl) (o_bin (u := .int .i64 0) (v := .int .i64 0) (fun ρ hx hy => by simp only [execOp, hx, hy]; simp [go_sem]) (F.ev rfl) rfl) fun a F => ?_
 refine lx_value (v := .bool true) F (wanted_none rfl _) rfl (by rfl) (o_move (F.ev rfl)) fun a F => ?_
 refine lx_value (v := num R) F (F.want (t := 25) (c := true) rfl rfl rfl (by rfl) rfl) rfl (by rfl) (o_loadN (F.ev rfl) (HM.get 0 rfl)) fun a F => ?_
 refine lx_value (v := num 0) F (F.want (t := 25) (c := true) rfl rfl rfl (by rfl) rfl) rfl (by rfl) (o_build0) fun a F => ?_
 refine lx_value (v := .bool true) F (F.want (t := 25) (c := true) rfl rfl rfl (by rfl) rfl) rfl (by rfl) (o_eqlN hR (show 0 < 2 ^ 256 by decide) h0 (F.ev rfl) (F.ev rfl)) fun a F => ?_
 refine lx_value (v := .bool true) F (wanted_none rfl _) rfl (by rfl) (o_pick (b := true) (r := .bool true) (F.ev rfl) (F.ev rfl) rfl rfl) fun a F => ?_
 refine lx_value (v := .bool true) F (wanted_none rfl _) rfl (by rfl) (o_assign (F.ev rfl)) fun a F => ?_
 refine lx_nil ?_
 repeat (first | refine ex_then ?_ | refine ex_block ?_ | refine wp_seq ?_ | refine wp_block ?_ | refine wp_skip ?_)
 refine wp_ret ?_
 repeat (first | refine ex_thenR ?_ | refine ex_blockR ?_)
 exact sx_ret F HM (res_tmp F rfl (s := 4) rfl)

set_option maxRecDepth 100000 in
set_option maxHeartbeats 8000000 in
theorem goes_false (q p S c D R : Nat)
  (c1 : ∀ w, Calls Try.prog 52 #[num p, num 1] w fun e w' => e = .returned (.tuple #[num S, .int .u64 (c : Nat)]) ∧ Below w.heap.size w w')
  (c2 : ∀ w, Calls Try.prog 24 #[num S, num q] w fun e w' => e = .returned (.tuple #[num D, num R, .int .i64 0]) ∧ Below w.heap.size w w')
  (hR : R < 2 ^ 256)
  (h0 : decide (R = 0) = false)
  (w : World) : Calls Try.prog 74 #[num q, num p] w fun e w' => e = .returned (.bool false) ∧ Below w.heap.size w w' := by
 refine sx_enter (args := [num q, num p]) Try.func74 rfl Try.ntmps74 (by rfl) fun a F HM => ?_
 repeat (first | refine ex_then ?_ | refine ex_block ?_ | refine wp_seq ?_ | refine wp_block ?_ | refine wp_skip ?_)
 refine wp_region_lit ?_
 refine lx_new F HM (wanted_none rfl _) rfl (by rfl) (o_boxN (F.ev rfl)) fun a w gq F HM => ?_
 refine lx_new F HM (wanted_none rfl _) rfl (by rfl) (o_boxN (F.ev rfl)) fun a w gp F HM => ?_
 refine lx_value (v := .bool false) F (wanted_none rfl _) rfl (by rfl) (o_assign rfl) fun a F => ?_
 refine lx_nil ?_
 repeat (first | refine ex_then ?_ | refine ex_block ?_ | refine wp_seq ?_ | refine wp_block ?_ | refine wp_skip ?_)
 try simp only [List.append_eq, List.cons_append, List.nil_append]
 refine sx_drawn [⟨0, 11, [], .val (num p), true⟩,
   ⟨6, 5, [], .cell 24 (ncs 0), false⟩,
   ⟨1, 12, [0], .val (num 1), false⟩,
   ⟨2, 13, [0, 2], .val (.tuple #[num S, .int .u64 (c : Nat)]), false⟩,
   ⟨3, 10, [3], .val (.tuple #[num S, .int .u64 (c : Nat)]), true⟩,
   ⟨4, 14, [4], .val (num S), true⟩,
   ⟨5, 15, [4, 5], .val (.int .u64 (c : Nat)), true⟩] 2 F HM (by kernel_rfl) (by rfl) (by rfl) ?_ ?_ ?_ ?_ ?_ ?_ ?_
 ·kernel_rfl
 ·exact of_decide_eq_true (by kernel_rfl)
 ·(repeat refine all_cons ⟨_, by rfl, by rfl⟩ ?_); exact all_nil
 ·kernel_rfl
 ·(repeat (refine all_cons ?_ ?_; rotate_left)); exact all_nil
  ·exact coreS _ _ _ _ _ _ _ (by rfl) (by rfl) (wants_none) (fun ρ w kn hs => o_loadN (kn _ _ (F.old (by rfl) rfl)) (hs.get 0 rfl))
  ·exact core_pureAs _ (by rfl)
  ·exact core_pureAs _ (by rfl)
  ·exact core_pureAs _ (by rfl)
  ·exact coreS _ _ _ _ _ _ _ (by rfl) (by rfl) (wants_none) (fun ρ w kn hs => o_move (kn _ _ (kc 3 13)))
  ·exact coreS _ _ _ _ _ _ _ (by rfl) (by rfl) (wants_none) (fun ρ w kn hs => o_extract (kn _ _ (kc 4 10)) rfl)
  ·exact coreS _ _ _ _ _ _ _ (by rfl) (by rfl) (wants_none) (fun ρ w kn hs => o_extract (kn _ _ (kc 4 10)) rfl)
 ·(repeat (refine all_cons ?_ ?_; rotate_left)); exact all_nil
  ·exact sA
  ·exact fun _ => core_new _ _ _ _ _ _ _ _ (by rfl) (by rfl) (Nat.le_refl _) (fun ρ w => o_allocN)
  ·exact fun _ => coreG_call _ 36 _ _ [.const (.int .u64 1)] _ _ _ _ _ _ _ (by rfl) Try.func36 (by kernel_rfl) (by rfl) (by rfl) (wants_none) (.cons (known_const _) .nil) ((fun w => of_any 1 (by decide) w))
  ·exact fun _ => coreG_call _ 52 _ _ [.tmp 11, .tmp 12] _ _ _ _ _ _ _ (by rfl) Try.func52 (by kernel_rfl) (by rfl) (by rfl) (wants_none) (.cons (kc 0 11) (.cons (kc 2 12) .nil)) (c1)
  ·exact sA
  ·exact sA
  ·exact sA
 intro gs rs a w hgs hrs F HM
 obtain rfl := nl0 rs hrs
 clear hrs
 obtain ⟨gs, rfl⟩ := nl1 gs hgs
 clear hgs
 refine sx_store (i := 7) HM (by kernel_rfl) (by rfl) rfl rfl (k := 0) rfl (o_storeN (F.ev rfl) (F.ev rfl) (HM.get 0 rfl)) (M2 := [(gs, 24, ncs S), (gp, 24, ncs p), (gq, 24, ncs q)]) rfl (fun _ h => h.tail (A := [(gs, 24, ncs S)])) fun w HM => ?_
 refine sx_assign (i := 8) (d := 6) (x := .tmp 15) (v := .int .u64 (c : Nat)) F (HM.tail (A := [(gs, 24, ncs S)])) (by kernel_rfl) (by rfl) (by rfl) (F.ev rfl) fun a F => ?_
 refine sx_done (by kernel_rfl) ?_ _
 repeat (first | refine ex_then ?_ | refine ex_block ?_ | refine wp_seq ?_ | refine wp_block ?_ | refine wp_skip ?_)
 refine wp_region_lit ?_
 refine lx_value (v := num S) F (wanted_none rfl _) rfl (by rfl) (o_loadN (F.ev rfl) (HM.get 0 rfl)) fun a F => ?_
 refine lx_value (v := num q) F (wanted_none rfl _) rfl (by rfl) (o_loadN (F.ev rfl) (HM.get 2 rfl)) fun a F => ?_
 refine lx_call F (wanted_none rfl _) rfl (by rfl) (run_callF Try.func24 (by kernel_rfl) (by rfl) (.cons (F.ev rfl) (.cons (F.ev rfl) .nil)) _) (c2 _) fun a w z F => ?_
 replace HM := HM.on z
 clear z
 refine lx_value (v := .tuple #[num D, num R, .int .i64 0]) F (wanted_none rfl _) rfl (by rfl) (o_move (F.ev rfl)) fun a F => ?_
 refine lx_value (v := num D) F (wanted_none rfl _) rfl (by rfl) (o_extract (F.ev rfl) rfl) fun a F => ?_
 refine lx_value (v := num R) F (wanted_none rfl _) rfl (by rfl) (o_extract (F.ev rfl) rfl) fun a F => ?_
 refine lx_value (v := .int .i64 0) F (wanted_none rfl _) rfl (by rfl) (o_extract (F.ev rfl) rfl) fun a F => ?_
 refine lx_new F HM (wanted_none rfl _) rfl (by rfl) (o_allocN) fun a w gd F HM => ?_
 refine lx_new F HM (wanted_none rfl _) rfl (by rfl) (o_allocN) fun a w gu F HM => ?_
 refine lx_store F HM (wanted_none rfl _) rfl (k := 1) rfl (o_storeN (F.ev rfl) (F.ev rfl) (HM.get 1 rfl)) (M2 := [(gu, 24, ncs 0), (gd, 24, ncs D), (gs, 24, ncs S), (gp, 24, ncs p), (gq, 24, ncs q)]) rfl fun w HM => ?_
 refine lx_store F HM (wanted_none rfl _) rfl (k := 0) rfl (o_storeN (F.ev rfl) (F.ev rfl) (HM.get 0 rfl)) (M2 := [(gu, 24, ncs R), (gd, 24, ncs D), (gs, 24, ncs S), (gp, 24, ncs p), (gq, 24, ncs q)]) rfl fun w HM => ?_
 refine lx_value (v := .int .i64 0) F (wanted_none rfl _) rfl (by rfl) (o_assign (F.ev rfl)) fun a F => ?_
 refine lx_nil ?_
 repeat (first | refine ex_then ?_ | refine ex_block ?_ | refine wp_seq ?_ | refine wp_block ?_ | refine wp_skip ?_)
 refine wp_region_lit ?_
 refine lx_value (v := .int .i64 0) F (wanted_none rfl _) rfl (by rfl) (o_move (F.ev rfl)) fun a F => ?_
 refine lx_value (v := .bool true) F (wanted_none rfl _) rfl (by rfl) (o_bin (u := .int .i64 0) (v := .int .i64 0) (fun ρ hx hy => by simp only [execOp, hx, hy]; simp [go_sem]) (F.ev rfl) rfl) fun a F => ?_
 refine lx_value (v := .bool true) F (wanted_none rfl _) rfl (by rfl) (o_move (F.ev rfl)) fun a F => ?_
 refine lx_value (v := num R) F (F.want (t := 25) (c := true) rfl rfl rfl (by rfl) rfl) rfl (by rfl) (o_loadN (F.ev rfl) (HM.get 0 rfl)) fun a F => ?_
 refine lx_value (v := num 0) F (F.want (t := 25) (c := true) rfl rfl rfl (by rfl) rfl) rfl (by rfl) (o_build0) fun a F => ?_
 refine lx_value (v := .bool false) F (F.want (t := 25) (c := true) rfl rfl rfl (by rfl) rfl) rfl (by rfl) (o_eqlN hR (show 0 < 2 ^ 256 by decide) h0 (F.ev rfl) (F.ev rfl)) fun a F => ?_
 refine lx_value (v := .bool false) F (wanted_none rfl _) rfl (by rfl) (o_pick (b := true) (r := .bool false) (F.ev rfl) (F.ev rfl) rfl rfl) fun a F => ?_
 refine lx_value (v := .bool false) F (wanted_none rfl _) rfl (by rfl) (o_assign (F.ev rfl)) fun a F => ?_
 refine lx_nil ?_
 repeat (first | refine ex_then ?_ | refine ex_block ?_ | refine wp_seq ?_ | refine wp_block ?_ | refine wp_skip ?_)
 refine wp_ret ?_
 repeat (first | refine ex_thenR ?_ | refine ex_blockR ?_)
 exact sx_ret F HM (res_tmp F rfl (s := 4) rfl)

/-- does q divide p less one? (less one of nought is the highest) -/
def lessN (p : Nat) : Nat := if p = 0 then 2 ^ 256 - 1 else p - 1
def goesB (q p : Nat) : Bool := decide (q ≠ 0) && decide (lessN p % q = 0)
theorem goes_any (q p : Nat) (hq : q < 2 ^ 256) (hp : p < 2 ^ 256) (w : World) : Calls Try.prog 74 #[num q, num p] w fun e w' => e = .returned (.bool (goesB q p)) ∧ Below w.heap.size w w' := by
 obtain ⟨S, c, hS, hc, he, C1⟩ := sub_ex p 1 hp (by decide)
 have hSv : lessN p = S := by unfold lessN; split <;> omega
 by_cases hq0 : q = 0
 ·rw [show goesB q p = false from by simp [goesB, hq0]]
  subst hq0
  exact goes_no 0 p S c 0 0 C1 (fun w => div_zero S w) w
 ·obtain ⟨D, R, hD, hR, hdr, C2⟩ := div_ex S q hS hq hq0
  have hRv : S % q = R := by rw [hdr, Nat.mul_comm, Nat.mul_add_mod, Nat.mod_eq_of_lt hR]
  have hR2 : R < 2 ^ 256 := Nat.lt_trans hR hq
  by_cases h0 : R = 0
  ·rw [show goesB q p = true from by simp [goesB, hq0, hSv, hRv, h0]]
   exact goes_true q p S c D R C1 C2 hR2 (decide_eq_true h0) w
  ·rw [show goesB q p = false from by simp [goesB, hSv, hRv, h0]]
   exact goes_false q p S c D R C1 C2 hR2 (decide_eq_false h0) w
set_option maxRecDepth 100000 in
set_option maxHeartbeats 8000000 in
theorem ck1_no (P Q G H N Y M Z gg gp gq : Nat) (sp sq : Value) (w : World)
  (hg : At w gg 35 (gcs P Q G H))
  (hp : At w gp 27 (rcs N Y sp))
  (hq : At w gq 27 (rcs M Z sq))
  (hN : N < 2 ^ 256)
  (hM : M < 2 ^ 256)
  (hP : P < 2 ^ 256)
  (hQ : Q < 2 ^ 256)
  (e1 : decide (N = P) = false)
  : Calls Try.prog 72 #[.pointer (some ⟨gp, 0, none⟩), .pointer (some ⟨gg, 0, none⟩), .pointer (some ⟨gq, 0, none⟩)] w fun e w' => e = .returned (.bool false) ∧ Below w.heap.size w w' := by
 refine sx_enter (args := [.pointer (some ⟨gp, 0, none⟩), .pointer (some ⟨gg, 0, none⟩), .pointer (some ⟨gq, 0, none⟩)]) Try.func72 rfl Try.ntmps72 (by rfl) fun a F HM => ?_
 repeat (first | refine ex_then ?_ | refine ex_block ?_ | refine wp_seq ?_ | refine wp_block ?_ | refine wp_skip ?_)
 refine wp_region_lit ?_
 refine lx_value (v := .bool false) F (wanted_none rfl _) rfl (by rfl) (o_assign rfl) fun a F => ?_
 refine lx_nil ?_
 repeat (first | refine ex_then ?_ | refine ex_block ?_ | refine wp_seq ?_ | refine wp_block ?_ | refine wp_skip ?_)
 refine wp_region_lit ?_
 refine lx_value (v := .pointer (some ⟨gp, 0, none⟩)) F (wanted_none rfl _) rfl (by rfl) (o_fieldR0 (F.ev rfl)) fun a F => ?_
 refine lx_value (v := num N) F (wanted_none rfl _) rfl (by rfl) (o_loadR0 (F.ev rfl) (hp.on HM.bel)) fun a F => ?_
 refine lx_value (v := .pointer (some ⟨gg, 0, none⟩)) F (wanted_none rfl _) rfl (by rfl) (o_fieldG0 (F.ev rfl)) fun a F => ?_
 refine lx_value (v := num P) F (wanted_none rfl _) rfl (by rfl) (o_loadG0 (F.ev rfl) (hg.on HM.bel)) fun a F => ?_
 refine lx_value (v := .bool false) F (wanted_none rfl _) rfl (by rfl) (o_eqlN hN hP e1 (F.ev rfl) (F.ev rfl)) fun a F => ?_
 refine lx_value (v := .bool false) F (wanted_none rfl _) rfl (by rfl) (o_move (F.ev rfl)) fun a F => ?_
 refine lx_pass F (F.want (t := 9) (c := false) rfl rfl rfl (by rfl) rfl) rfl (by rfl) fun a F => ?_
 refine lx_pass F (F.want (t := 9) (c := false) rfl rfl rfl (by rfl) rfl) rfl (by rfl) fun a F => ?_
 refine lx_pass F (F.want (t := 9) (c := false) rfl rfl rfl (by rfl) rfl) rfl (by rfl) fun a F => ?_
 refine lx_pass F (F.want (t := 9) (c := false) rfl rfl rfl (by rfl) rfl) rfl (by rfl) fun a F => ?_
 refine lx_pass F (F.want (t := 9) (c := false) rfl rfl rfl (by rfl) rfl) rfl (by rfl) fun a F => ?_
 refine lx_value (v := .bool false) F (wanted_none rfl _) rfl (by rfl) (o_pick (b := false) (r := .bool false) (F.ev rfl) (F.ev rfl) rfl rfl) fun a F => ?_
 refine lx_value (v := .bool false) F (wanted_none rfl _) rfl (by rfl) (o_assign (F.ev rfl)) fun a F => ?_
 refine lx_nil ?_
 repeat (first | refine ex_then ?_ | refine ex_block ?_ | refine wp_seq ?_ | refine wp_block ?_ | refine wp_skip ?_)
 refine wp_ret ?_
 repeat (first | refine ex_thenR ?_ | refine ex_blockR ?_)
 exact sx_ret F HM (res_tmp F rfl (s := 3) rfl)

set_option maxRecDepth 100000 in
set_option maxHeartbeats 8000000 in
theorem ck1_a (P Q G H N Y M Z gg gp gq : Nat) (sp sq : Value) (w : World)
  (hg : At w gg 35 (gcs P Q G H))
  (hp : At w gp 27 (rcs N Y sp))
  (hq : At w gq 27 (rcs M Z sq))
  (hN : N < 2 ^ 256)
  (hM : M < 2 ^ 256)
  (hP : P < 2 ^ 256)
  (hQ : Q < 2 ^ 256)
  (e1 : decide (N = P) = true)
  (e2 : decide (M = Q) = false)
  : Calls Try.prog 72 #[.pointer (some ⟨gp, 0, none⟩), .pointer (some ⟨gg, 0, none⟩), .pointer (some ⟨gq, 0, none⟩)] w fun e w' => e = .returned (.bool false) ∧ Below w.heap.size w w' := by
 refine sx_enter (args := [.pointer (some ⟨gp, 0, none⟩), .pointer (some ⟨gg, 0, none⟩), .pointer (some ⟨gq, 0, none⟩)]) Try.func72 rfl Try.ntmps72 (by rfl) fun a F HM => ?_
 repeat (first | refine ex_then ?_ | refine ex_block ?_ | refine wp_seq ?_ | refine wp_block ?_ | refine wp_skip ?_)
 refine wp_region_lit ?_
 refine lx_value (v := .bool false) F (wanted_none rfl _) rfl (by rfl) (o_assign rfl) fun a F => ?_
 refine lx_nil ?_
 repeat (first | refine ex_then ?_ | refine ex_block ?_ | refine wp_seq ?_ | refine wp_block ?_ | refine wp_skip ?_)
 refine wp_region_lit ?_
 refine lx_value (v := .pointer (some ⟨gp, 0, none⟩)) F (wanted_none rfl _) rfl (by rfl) (o_fieldR0 (F.ev rfl)) fun a F => ?_
 refine lx_value (v := num N) F (wanted_none rfl _) rfl (by rfl) (o_loadR0 (F.ev rfl) (hp.on HM.bel)) fun a F => ?_
 refine lx_value (v := .pointer (some ⟨gg, 0, none⟩)) F (wanted_none rfl _) rfl (by rfl) (o_fieldG0 (F.ev rfl)) fun a F => ?_
 refine lx_value (v := num P) F (wanted_none rfl _) rfl (by rfl) (o_loadG0 (F.ev rfl) (hg.on HM.bel)) fun a F => ?_
 refine lx_value (v := .bool true) F (wanted_none rfl _) rfl (by rfl) (o_eqlN hN hP e1 (F.ev rfl) (F.ev rfl)) fun a F => ?_
 refine lx_value (v := .bool true) F (wanted_none rfl _) rfl (by rfl) (o_move (F.ev rfl)) fun a F => ?_
 refine lx_value (v := .pointer (some ⟨gq, 0, none⟩)) F (F.want (t := 9) (c := true) rfl rfl rfl (by rfl) rfl) rfl (by rfl) (o_fieldR0 (F.ev rfl)) fun a F => ?_
 refine lx_value (v := num M) F (F.want (t := 9) (c := true) rfl rfl rfl (by rfl) rfl) rfl (by rfl) (o_loadR0 (F.ev rfl) (hq.on HM.bel)) fun a F => ?_
 refine lx_value (v := .pointer (some ⟨gg, 4, none⟩)) F (F.want (t := 9) (c := true) rfl rfl rfl (by rfl) rfl) rfl (by rfl) (o_fieldG1 (F.ev rfl)) fun a F => ?_
 refine lx_value (v := num Q) F (F.want (t := 9) (c := true) rfl rfl rfl (by rfl) rfl) rfl (by rfl) (o_loadG1 (F.ev rfl) (hg.on HM.bel)) fun a F => ?_
 refine lx_value (v := .bool false) F (F.want (t := 9) (c := true) rfl rfl rfl (by rfl) rfl) rfl (by rfl) (o_eqlN hM hQ e2 (F.ev rfl) (F.ev rfl)) fun a F => ?_
 refine lx_value (v := .bool false) F (wanted_none rfl _) rfl (by rfl) (o_pick (b := true) (r := .bool false) (F.ev rfl) (F.ev rfl) rfl rfl) fun a F => ?_
 refine lx_value (v := .bool false) F (wanted_none rfl _) rfl (by rfl) (o_assign (F.ev rfl)) fun a F => ?_
 refine lx_nil ?_
 repeat (first | refine ex_then ?_ | refine ex_block ?_ | refine wp_seq ?_ | refine wp_block ?_ | refine wp_skip ?_)
 refine wp_ret ?_
 repeat (first | refine ex_thenR ?_ | refine ex_blockR ?_)
 exact sx_ret F HM (res_tmp F rfl (s := 3) rfl)

set_option maxRecDepth 100000 in
set_option maxHeartbeats 8000000 in
theorem ck1_b (P Q G H N Y M Z gg gp gq : Nat) (sp sq : Value) (w : World)
  (hg : At w gg 35 (gcs P Q G H))
  (hp : At w gp 27 (rcs N Y sp))
  (hq : At w gq 27 (rcs M Z sq))
  (hN : N < 2 ^ 256)
  (hM : M < 2 ^ 256)
  (hP : P < 2 ^ 256)
  (hQ : Q < 2 ^ 256)
  (e1 : decide (N = P) = true)
  (e2 : decide (M = Q) = true)
  : Calls Try.prog 72 #[.pointer (some ⟨gp, 0, none⟩), .pointer (some ⟨gg, 0, none⟩), .pointer (some ⟨gq, 0, none⟩)] w fun e w' => e = .returned (.bool true) ∧ Below w.heap.size w w' := by
 refine sx_enter (args := [.pointer (some ⟨gp, 0, none⟩), .pointer (some ⟨gg, 0, none⟩), .pointer (some ⟨gq, 0, none⟩)]) Try.func72 rfl Try.ntmps72 (by rfl) fun a F HM => ?_
 repeat (first | refine ex_then ?_ | refine ex_block ?_ | refine wp_seq ?_ | refine wp_block ?_ | refine wp_skip ?_)
 refine wp_region_lit ?_
 refine lx_value (v := .bool false) F (wanted_none rfl _) rfl (by rfl) (o_assign rfl) fun a F => ?_
 refine lx_nil ?_
 repeat (first | refine ex_then ?_ | refine ex_block ?_ | refine wp_seq ?_ | refine wp_block ?_ | refine wp_skip ?_)
 refine wp_region_lit ?_
 refine lx_value (v := .pointer (some ⟨gp, 0, none⟩)) F (wanted_none rfl _) rfl (by rfl) (o_fieldR0 (F.ev rfl)) fun a F => ?_
 refine lx_value (v := num N) F (wanted_none rfl _) rfl (by rfl) (o_loadR0 (F.ev rfl) (hp.on HM.bel)) fun a F => ?_
 refine lx_value (v := .pointer (some ⟨gg, 0, none⟩)) F (wanted_none rfl _) rfl (by rfl) (o_fieldG0 (F.ev rfl)) fun a F => ?_
 refine lx_value (v := num P) F (wanted_none rfl _) rfl (by rfl) (o_loadG0 (F.ev rfl) (hg.on HM.bel)) fun a F => ?_
 refine lx_value (v := .bool true) F (wanted_none rfl _) rfl (by rfl) (o_eqlN hN hP e1 (F.ev rfl) (F.ev rfl)) fun a F => ?_
 refine lx_value (v := .bool true) F (wanted_none rfl _) rfl (by rfl) (o_move (F.ev rfl)) fun a F => ?_
 refine lx_value (v := .pointer (some ⟨gq, 0, none⟩)) F (F.want (t := 9) (c := true) rfl rfl rfl (by rfl) rfl) rfl (by rfl) (o_fieldR0 (F.ev rfl)) fun a F => ?_
 refine lx_value (v := num M) F (F.want (t := 9) (c := true) rfl rfl rfl (by rfl) rfl) rfl (by rfl) (o_loadR0 (F.ev rfl) (hq.on HM.bel)) fun a F => ?_
 refine lx_value (v := .pointer (some ⟨gg, 4, none⟩)) F (F.want (t := 9) (c := true) rfl rfl rfl (by rfl) rfl) rfl (by rfl) (o_fieldG1 (F.ev rfl)) fun a F => ?_
 refine lx_value (v := num Q) F (F.want (t := 9) (c := true) rfl rfl rfl (by rfl) rfl) rfl (by rfl) (o_loadG1 (F.ev rfl) (hg.on HM.bel)) fun a F => ?_
 refine lx_value (v := .bool true) F (F.want (t := 9) (c := true) rfl rfl rfl (by rfl) rfl) rfl (by rfl) (o_eqlN hM hQ e2 (F.ev rfl) (F.ev rfl)) fun a F => ?_
 refine lx_value (v := .bool true) F (wanted_none rfl _) rfl (by rfl) (o_pick (b := true) (r := .bool true) (F.ev rfl) (F.ev rfl) rfl rfl) fun a F => ?_
 refine lx_value (v := .bool true) F (wanted_none rfl _) rfl (by rfl) (o_assign (F.ev rfl)) fun a F => ?_
 refine lx_nil ?_
 repeat (first | refine ex_then ?_ | refine ex_block ?_ | refine wp_seq ?_ | refine wp_block ?_ | refine wp_skip ?_)
 refine wp_ret ?_
 repeat (first | refine ex_thenR ?_ | refine ex_blockR ?_)
 exact sx_ret F HM (res_tmp F rfl (s := 3) rfl)

theorem ck1_any (P Q G H N Y M Z gg gp gq : Nat) (sp sq : Value) (w : World) (hg : At w gg 35 (gcs P Q G H)) (hp : At w gp 27 (rcs N Y sp)) (hq : At w gq 27 (rcs M Z sq)) (hN : N < 2 ^ 256) (hM : M < 2 ^ 256) (hP : P < 2 ^ 256) (hQ : Q < 2 ^ 256) :
  Calls Try.prog 72 #[.pointer (some ⟨gp, 0, none⟩), .pointer (some ⟨gg, 0, none⟩), .pointer (some ⟨gq, 0, none⟩)] w fun e w' => e = .returned (.bool (decide (N = P) && decide (M = Q))) ∧ Below w.heap.size w w' := by
 rcases e1 : decide (N = P) with _ | _
 ·exact ck1_no P Q G H N Y M Z gg gp gq sp sq w hg hp hq hN hM hP hQ e1
 ·rcases e2 : decide (M = Q) with _ | _
  ·exact ck1_a P Q G H N Y M Z gg gp gq sp sq w hg hp hq hN hM hP hQ e1 e2
  ·exact ck1_b P Q G H N Y M Z gg gp gq sp sq w hg hp hq hN hM hP hQ e1 e2
set_option maxRecDepth 100000 in
set_option maxHeartbeats 8000000 in
theorem ck2_any (P Q G H gg : Nat) (w : World)
  (hg : At w gg 35 (gcs P Q G H))
  (hP : P < 2 ^ 256)
  (hQ : Q < 2 ^ 256)
  : Calls Try.prog 73 #[.pointer (some ⟨gg, 0, none⟩)] w fun e w' => e = .returned (.bool (goesB Q P)) ∧ Below w.heap.size w w' := by
 refine sx_enter (args := [.pointer (some ⟨gg, 0, none⟩)]) Try.func73 rfl Try.ntmps73 (by rfl) fun a F HM => ?_
 repeat (first | refine ex_then ?_ | refine ex_block ?_ | refine wp_seq ?_ | refine wp_block ?_ | refine wp_skip ?_)
 refine wp_region_lit ?_
 refine lx_value (v := .bool false) F (wanted_none rfl _) rfl (by rfl) (o_assign rfl) fun a F => ?_
 refine lx_nil ?_
 repeat (first | refine ex_then ?_ | refine ex_block ?_ | refine wp_seq ?_ | refine wp_block ?_ | refine wp_skip ?_)
 refine wp_region_lit ?_
 refine lx_value (v := .pointer (some ⟨gg, 4, none⟩)) F (wanted_none rfl _) rfl (by rfl) (o_fieldG1 (F.ev rfl)) fun a F => ?_
 refine lx_value (v := num Q) F (wanted_none rfl _) rfl (by rfl) (o_loadG1 (F.ev rfl) (hg.on HM.bel)) fun a F => ?_
 refine lx_value (v := .pointer (some ⟨gg, 0, none⟩)) F (wanted_none rfl _) rfl (by rfl) (o_fieldG0 (F.ev rfl)) fun a F => ?_
 refine lx_value (v := num P) F (wanted_none rfl _) rfl (by rfl) (o_loadG0 (F.ev rfl) (hg.on HM.bel)) fun a F => ?_
 refine lx_call F (wanted_none rfl _) rfl (by rfl) (run_callF Try.func74 (by kernel_rfl) (by rfl) (.cons (F.ev rfl) (.cons (F.ev rfl) .nil)) _) ((fun w => goes_any Q P hQ hP w) _) fun a w z F => ?_
 replace HM := HM.on z
 clear z
 refine lx_value (v := .bool (goesB Q P)) F (wanted_none rfl _) rfl (by rfl) (o_assign (F.ev rfl)) fun a F => ?_
 refine lx_nil ?_
 repeat (first | refine ex_then ?_ | refine ex_block ?_ | refine wp_seq ?_ | refine wp_block ?_ | refine wp_skip ?_)
 refine wp_ret ?_
 repeat (first | refine ex_thenR ?_ | refine ex_blockR ?_)
 exact sx_ret F HM (res_tmp F rfl (s := 1) rfl)

set_option maxRecDepth 100000 in
set_option maxHeartbeats 8000000 in
theorem ck3_any (N Y gp : Nat) (sp : Value) (b : Bool) (w : World)
  (hp : At w gp 27 (rcs N Y sp))
  (c1 : ∀ u, Below w.heap.size w u → Calls Try.prog 11 #[rv N Y sp] u fun e w2 => e = .returned (.bool b) ∧ Below u.heap.size u w2)
  : Calls Try.prog 75 #[.pointer (some ⟨gp, 0, none⟩)] w fun e w' => e = .returned (.bool b) ∧ Below w.heap.size w w' := by
 refine sx_enter (args := [.pointer (some ⟨gp, 0, none⟩)]) Try.func75 rfl Try.ntmps75 (by rfl) fun a F HM => ?_
 repeat (first | refine ex_then ?_ | refine ex_block ?_ | refine wp_seq ?_ | refine wp_block ?_ | refine wp_skip ?_)
 refine wp_region_lit ?_
 refine lx_value (v := .bool false) F (wanted_none rfl _) rfl (by rfl) (o_assign rfl) fun a F => ?_
 refine lx_nil ?_
 repeat (first | refine ex_then ?_ | refine ex_block ?_ | refine wp_seq ?_ | refine wp_block ?_ | refine wp_skip ?_)
 refine wp_region_lit ?_
 refine lx_value (v := rv N Y (sp)) F (wanted_none rfl _) rfl (by rfl) (o_loadR (F.ev rfl) (hp.on HM.bel)) fun a F => ?_
 refine lx_call F (wanted_none rfl _) rfl (by rfl) (run_callF Try.func11 (by kernel_rfl) (by rfl) (.cons (F.ev rfl) .nil) _) (c1 _ HM.bel) fun a w z F => ?_
 replace HM := HM.on z
 clear z
 refine lx_value (v := .bool b) F (wanted_none rfl _) rfl (by rfl) (o_assign (F.ev rfl)) fun a F => ?_
 refine lx_nil ?_
 repeat (first | refine ex_then ?_ | refine ex_block ?_ | refine wp_seq ?_ | refine wp_block ?_ | refine wp_skip ?_)
 refine wp_ret ?_
 repeat (first | refine ex_thenR ?_ | refine ex_blockR ?_)
 exact sx_ret F HM (res_tmp F rfl (s := 1) rfl)

set_option maxRecDepth 100000 in
set_option maxHeartbeats 8000000 in
theorem ck4_any (N Y gq : Nat) (sp : Value) (b : Bool) (w : World)
  (hq : At w gq 27 (rcs N Y sp))
  (c1 : ∀ u, Below w.heap.size w u → Calls Try.prog 11 #[rv N Y sp] u fun e w2 => e = .returned (.bool b) ∧ Below u.heap.size u w2)
  : Calls Try.prog 76 #[.pointer (some ⟨gq, 0, none⟩)] w fun e w' => e = .returned (.bool b) ∧ Below w.heap.size w w' := by
 refine sx_enter (args := [.pointer (some ⟨gq, 0, none⟩)]) Try.func76 rfl Try.ntmps76 (by rfl) fun a F HM => ?_
 repeat (first | refine ex_then ?_ | refine ex_block ?_ | refine wp_seq ?_ | refine wp_block ?_ | refine wp_skip ?_)
 refine wp_region_lit ?_
 refine lx_value (v := .bool false) F (wanted_none rfl _) rfl (by rfl) (o_assign rfl) fun a F => ?_
 refine lx_nil ?_
 repeat (first | refine ex_then ?_ | refine ex_block ?_ | refine wp_seq ?_ | refine wp_block ?_ | refine wp_skip ?_)
 refine wp_region_lit ?_
 refine lx_value (v := rv N Y (sp)) F (wanted_none rfl _) rfl (by rfl) (o_loadR (F.ev rfl) (hq.on HM.bel)) fun a F => ?_
 refine lx_call F (wanted_none rfl _) rfl (by rfl) (run_callF Try.func11 (by kernel_rfl) (by rfl) (.cons (F.ev rfl) .nil) _) (c1 _ HM.bel) fun a w z F => ?_
 replace HM := HM.on z
 clear z
 refine lx_value (v := .bool b) F (wanted_none rfl _) rfl (by rfl) (o_assign (F.ev rfl)) fun a F => ?_
 refine lx_nil ?_
 repeat (first | refine ex_then ?_ | refine ex_block ?_ | refine wp_seq ?_ | refine wp_block ?_ | refine wp_skip ?_)
 refine wp_ret ?_
 repeat (first | refine ex_thenR ?_ | refine ex_blockR ?_)
 exact sx_ret F HM (res_tmp F rfl (s := 1) rfl)

set_option maxRecDepth 100000 in
set_option maxHeartbeats 8000000 in
theorem ck5_any (P Q G H gg : Nat) (w : World)
  (hg : At w gg 35 (gcs P Q G H))
  (hP : P < 2 ^ 256)
  (hQ : Q < 2 ^ 256)
  (hG : G < 2 ^ 256)
  : Calls Try.prog 77 #[.pointer (some ⟨gg, 0, none⟩)] w fun e w' => e = .returned (.bool (genB P Q G)) ∧ Below w.heap.size w w' := by
 refine sx_enter (args := [.pointer (some ⟨gg, 0, none⟩)]) Try.func77 rfl Try.ntmps77 (by rfl) fun a F HM => ?_
 repeat (first | refine ex_then ?_ | refine ex_block ?_ | refine wp_seq ?_ | refine wp_block ?_ | refine wp_skip ?_)
 refine wp_region_lit ?_
 refine lx_value (v := .bool false) F (wanted_none rfl _) rfl (by rfl) (o_assign rfl) fun a F => ?_
 refine lx_nil ?_
 repeat (first | refine ex_then ?_ | refine ex_block ?_ | refine wp_seq ?_ | refine wp_block ?_ | refine wp_skip ?_)
 refine wp_region_lit ?_
 refine lx_value (v := grp P Q G H) F (wanted_none rfl _) rfl (by rfl) (o_loadG (F.ev rfl) (hg.on HM.bel)) fun a F => ?_
 refine lx_value (v := .pointer (some ⟨gg, 8, none⟩)) F (wanted_none rfl _) rfl (by rfl) (o_fieldG2 (F.ev rfl)) fun a F => ?_
 refine lx_value (v := num G) F (wanted_none rfl _) rfl (by rfl) (o_loadG2 (F.ev rfl) (hg.on HM.bel)) fun a F => ?_
 refine lx_call F (wanted_none rfl _) rfl (by rfl) (run_callF Try.func78 (by kernel_rfl) (by rfl) (.cons (F.ev rfl) (.cons (F.ev rfl) .nil)) _) ((fun w => generates_any P Q G H G hP hQ hG w) _) fun a w z F => ?_
 replace HM := HM.on z
 clear z
 refine lx_value (v := .bool (genB P Q G)) F (wanted_none rfl _) rfl (by rfl) (o_assign (F.ev rfl)) fun a F => ?_
 refine lx_nil ?_
 repeat (first | refine ex_then ?_ | refine ex_block ?_ | refine wp_seq ?_ | refine wp_block ?_ | refine wp_skip ?_)
 refine wp_ret ?_
 repeat (first | refine ex_thenR ?_ | refine ex_blockR ?_)
 exact sx_ret F HM (res_tmp F rfl (s := 1) rfl)

set_option maxRecDepth 100000 in
set_option maxHeartbeats 8000000 in
theorem ck6_any (P Q G H gg : Nat) (w : World)
  (hg : At w gg 35 (gcs P Q G H))
  (hP : P < 2 ^ 256)
  (hQ : Q < 2 ^ 256)
  (hH : H < 2 ^ 256)
  : Calls Try.prog 79 #[.pointer (some ⟨gg, 0, none⟩)] w fun e w' => e = .returned (.bool (genB P Q H)) ∧ Below w.heap.size w w' := by
 refine sx_enter (args := [.pointer (some ⟨gg, 0, none⟩)]) Try.func79 rfl Try.ntmps79 (by rfl) fun a F HM => ?_
 repeat (first | refine ex_then ?_ | refine ex_block ?_ | refine wp_seq ?_ | refine wp_block ?_ | refine wp_skip ?_)
 refine wp_region_lit ?_
 refine lx_value (v := .bool false) F (wanted_none rfl _) rfl (by rfl) (o_assign rfl) fun a F => ?_
 refine lx_nil ?_
 repeat (first | refine ex_then ?_ | refine ex_block ?_ | refine wp_seq ?_ | refine wp_block ?_ | refine wp_skip ?_)
 refine wp_region_lit ?_
 refine lx_value (v := grp P Q G H) F (wanted_none rfl _) rfl (by rfl) (o_loadG (F.ev rfl) (hg.on HM.bel)) fun a F => ?_
 refine lx_value (v := .pointer (some ⟨gg, 12, none⟩)) F (wanted_none rfl _) rfl (by rfl) (o_fieldG3 (F.ev rfl)) fun a F => ?_
 refine lx_value (v := num H) F (wanted_none rfl _) rfl (by rfl) (o_loadG3 (F.ev rfl) (hg.on HM.bel)) fun a F => ?_
 refine lx_call F (wanted_none rfl _) rfl (by rfl) (run_callF Try.func78 (by kernel_rfl) (by rfl) (.cons (F.ev rfl) (.cons (F.ev rfl) .nil)) _) ((fun w => generates_any P Q G H H hP hQ hH w) _) fun a w z F => ?_
 replace HM := HM.on z
 clear z
 refine lx_value (v := .bool (genB P Q H)) F (wanted_none rfl _) rfl (by rfl) (o_assign (F.ev rfl)) fun a F => ?_
 refine lx_nil ?_
 repeat (first | refine ex_then ?_ | refine ex_block ?_ | refine wp_seq ?_ | refine wp_block ?_ | refine wp_skip ?_)
 refine wp_ret ?_
 repeat (first | refine ex_thenR ?_ | refine ex_blockR ?_)
 exact sx_ret F HM (res_tmp F rfl (s := 1) rfl)

set_option maxRecDepth 100000 in
set_option maxHeartbeats 8000000 in
theorem check8_w (P Q G H N Y M Z la ca lb cb : Nat) (pa pb : Option Addr) (b3 b4 V : Bool) (w0 : World) (hP : P < 2 ^ 256) (hQ : Q < 2 ^ 256) (hG : G < 2 ^ 256) (hH : H < 2 ^ 256) (hN : N < 2 ^ 256) (hM : M < 2 ^ 256)
  (c3 : ∀ u, Below w0.heap.size w0 u → Calls Try.prog 11 #[rv N Y (.slice pa la ca)] u fun e w2 => e = .returned (.bool b3) ∧ Below u.heap.size u w2)
  (c4 : ∀ u, Below w0.heap.size w0 u → Calls Try.prog 11 #[rv M Z (.slice pb lb cb)] u fun e w2 => e = .returned (.bool b4) ∧ Below u.heap.size u w2)
  (hV : V = ((decide (N = P) && decide (M = Q)) && goesB Q P && b3 && b4 && genB P Q G && genB P Q H)) : Calls Try.prog 47 #[grp P Q G H, rv N Y ((.slice pa la ca)), rv M Z ((.slice pb lb cb))] w0 fun e w' => e = .returned (.bool V) ∧ Below w0.heap.size w0 w' := by
 refine sx_enter (args := [grp P Q G H, rv N Y ((.slice pa la ca)), rv M Z ((.slice pb lb cb))]) Try.func47 rfl Try.ntmps47 (by rfl) fun a F HM => ?_
 repeat (first | refine ex_then ?_ | refine ex_block ?_ | refine wp_seq ?_ | refine wp_block ?_ | refine wp_skip ?_)
 refine wp_region_lit ?_
 refine lx_new F HM (wanted_none rfl _) rfl (by rfl) (o_boxG (F.ev rfl)) fun a w gg F HM => ?_
 refine lx_new F HM (wanted_none rfl _) rfl (by rfl) (o_boxR (F.ev rfl) rfl) fun a w gp F HM => ?_
 refine lx_new F HM (wanted_none rfl _) rfl (by rfl) (o_boxR (F.ev rfl) rfl) fun a w gq F HM => ?_
 refine lx_value (v := .bool false) F (wanted_none rfl _) rfl (by rfl) (o_assign rfl) fun a F => ?_
 refine lx_nil ?_
 repeat (first | refine ex_then ?_ | refine ex_block ?_ | refine wp_seq ?_ | refine wp_block ?_ | refine wp_skip ?_)
 refine wp_region_lit ?_
 refine lx_value (v := .func (.func 72) #[] #[.pointer (some ⟨gp, 0, none⟩), .pointer (some ⟨gg, 0, none⟩), .pointer (some ⟨gq, 0, none⟩)]) F (wanted_none rfl _) rfl (by rfl) (o_mk3 (F.ev rfl) (F.ev rfl) (F.ev rfl)) fun a F => ?_
 refine lx_value (v := .func (.func 73) #[] #[.pointer (some ⟨gg, 0, none⟩)]) F (wanted_none rfl _) rfl (by rfl) (o_mk1 (F.ev rfl)) fun a F => ?_
 refine lx_value (v := .func (.func 75) #[] #[.pointer (some ⟨gp, 0, none⟩)]) F (wanted_none rfl _) rfl (by rfl) (o_mk1 (F.ev rfl)) fun a F => ?_
 refine lx_value (v := .func (.func 76) #[] #[.pointer (some ⟨gq, 0, none⟩)]) F (wanted_none rfl _) rfl (by rfl) (o_mk1 (F.ev rfl)) fun a F => ?_
 refine lx_value (v := .func (.func 77) #[] #[.pointer (some ⟨gg, 0, none⟩)]) F (wanted_none rfl _) rfl (by rfl) (o_mk1 (F.ev rfl)) fun a F => ?_
 refine lx_value (v := .func (.func 79) #[] #[.pointer (some ⟨gg, 0, none⟩)]) F (wanted_none rfl _) rfl (by rfl) (o_mk1 (F.ev rfl)) fun a F => ?_
 refine lx_value (v := .agg #[.func (.func 72) #[] #[.pointer (some ⟨gp, 0, none⟩), .pointer (some ⟨gg, 0, none⟩), .pointer (some ⟨gq, 0, none⟩)], .func (.func 73) #[] #[.pointer (some ⟨gg, 0, none⟩)], .func (.func 75) #[] #[.pointer (some ⟨gp, 0, none⟩)], .func (.func 76) #[] #[.pointer (some ⟨gq, 0, none⟩)], .func (.func 77) #[] #[.pointer (some ⟨gg, 0, none⟩)], .func (.func 79) #[] #[.pointer (some ⟨gg, 0, none⟩)]]) F (wanted_none rfl _) rfl (by rfl) (o_buildF6 (F.ev rfl) (F.ev rfl) (F.ev rfl) (F.ev rfl) (F.ev rfl) (F.ev rfl)) fun a F => ?_
 refine lx_new F HM (wanted_none rfl _) rfl (by rfl) (o_allocF) fun a w gf F HM => ?_
 refine lx_store F HM (wanted_none rfl _) rfl (k := 0) rfl (o_storeF (F.ev rfl) (F.ev rfl) (HM.get 0 rfl)) (M2 := [(gf, 87, #[.func (.func 72) #[] #[.pointer (some ⟨gp, 0, none⟩), .pointer (some ⟨gg, 0, none⟩), .pointer (some ⟨gq, 0, none⟩)], .func (.func 73) #[] #[.pointer (some ⟨gg, 0, none⟩)], .func (.func 75) #[] #[.pointer (some ⟨gp, 0, none⟩)], .func (.func 76) #[] #[.pointer (some ⟨gq, 0, none⟩)], .func (.func 77) #[] #[.pointer (some ⟨gg, 0, none⟩)], .func (.func 79) #[] #[.pointer (some ⟨gg, 0, none⟩)]]), (gq, 27, rcs M Z ((.slice pb lb cb))), (gp, 27, rcs N Y ((.slice pa la ca))), (gg, 35, gcs P Q G H)]) rfl fun w HM => ?_
 refine lx_nil ?_
 repeat (first | refine ex_then ?_ | refine ex_block ?_ | refine wp_seq ?_ | refine wp_block ?_ | refine wp_skip ?_)
 refine wp_region_lit ?_
 refine lx_value (v := .agg #[.func (.func 72) #[] #[.pointer (some ⟨gp, 0, none⟩), .pointer (some ⟨gg, 0, none⟩), .pointer (some ⟨gq, 0, none⟩)], .func (.func 73) #[] #[.pointer (some ⟨gg, 0, none⟩)], .func (.func 75) #[] #[.pointer (some ⟨gp, 0, none⟩)], .func (.func 76) #[] #[.pointer (some ⟨gq, 0, none⟩)], .func (.func 77) #[] #[.pointer (some ⟨gg, 0, none⟩)], .func (.func 79) #[] #[.pointer (some ⟨gg, 0, none⟩)]]) F (wanted_none rfl _) rfl (by rfl) (o_loadF (F.ev rfl) (HM.get 0 rfl)) fun a F => ?_
 refine lx_value (v := .int .i64 0) F (wanted_none rfl _) rfl (by rfl) (o_move rfl) fun a F => ?_
 refine lx_nil ?_
 repeat (first | refine ex_then ?_ | refine ex_block ?_ | refine wp_seq ?_ | refine wp_block ?_ | refine wp_skip ?_)
 refine wp_loop_rounds 7 ?_
 refine ln_round ?_
 repeat (first | refine ex_then ?_ | refine ex_block ?_ | refine wp_seq ?_ | refine wp_block ?_ | refine wp_skip ?_)
 refine wp_region_lit ?_
 refine lx_value (v := .bool true) F (wanted_none rfl _) rfl (by rfl) (o_bin (u := .int .i64 0) (v := .int .i64 6) (fun ρ hx hy => by simp only [execOp, hx, hy]; simp [go_sem]) (F.ev rfl) rfl) fun a F => ?_
 refine lx_nil ?_
 repeat (first | refine ex_then ?_ | refine ex_block ?_ | refine wp_seq ?_ | refine wp_block ?_ | refine wp_skip ?_)
 refine wp_cond_true (F.ev rfl) ?_
 repeat (first | refine ex_then ?_ | refine ex_block ?_ | refine wp_seq ?_ | refine wp_block ?_ | refine wp_skip ?_)
 refine wp_region_lit ?_
 refine lx_value (v := .func (.func 72) #[] #[.pointer (some ⟨gp, 0, none⟩), .pointer (some ⟨gg, 0, none⟩), .pointer (some ⟨gq, 0, none⟩)]) F (wanted_none rfl _) rfl (by rfl) (o_index (i := 0) (F.ev rfl) (F.ev rfl) rfl) fun a F => ?_
 refine lx_value (v := .func (.func 72) #[] #[.pointer (some ⟨gp, 0, none⟩), .pointer (some ⟨gg, 0, none⟩), .pointer (some ⟨gq, 0, none⟩)]) F (wanted_none rfl _) rfl (by rfl) (o_assign (F.ev rfl)) fun a F => ?_
 refine lx_nil ?_
 rcases hb0 : (decide (N = P) && decide (M = Q)) with _ | _
 ·repeat (first | refine ex_then ?_ | refine ex_block ?_ | refine wp_seq ?_ | refine wp_block ?_ | refine wp_skip ?_)
  refine wp_region_lit ?_
  refine lx_value (v := .func (.func 72) #[] #[.pointer (some ⟨gp, 0, none⟩), .pointer (some ⟨gg, 0, none⟩), .pointer (some ⟨gq, 0, none⟩)]) F (wanted_none rfl _) rfl (by rfl) (o_move (F.ev rfl)) fun a F => ?_
  refine lx_call F (wanted_none rfl _) rfl (by rfl) (run_callV Try.func72 (by kernel_rfl) (by rfl) (F.ev rfl) _) ((by have := ck1_any P Q G H N Y M Z _ _ _ _ _ w (HM.get 3 rfl) (HM.get 2 rfl) (HM.get 1 rfl) hN hM hP hQ; rw [hb0] at this; exact this)) fun a w z F => ?_
  replace HM := HM.on z
  clear z
  refine lx_value (v := .bool true) F (wanted_none rfl _) rfl (by rfl) (o_not (b := false) (r := true) (F.ev rfl) rfl) fun a F => ?_
  refine lx_nil ?_
  repeat (first | refine ex_then ?_ | refine ex_block ?_ | refine wp_seq ?_ | refine wp_block ?_ | refine wp_skip ?_)
  refine wp_cond_true (F.ev rfl) ?_
  repeat (first | refine ex_then ?_ | refine ex_block ?_ | refine wp_seq ?_ | refine wp_block ?_ | refine wp_skip ?_)
  refine wp_region_lit ?_
  refine lx_value (v := .bool false) F (wanted_none rfl _) rfl (by rfl) (o_assign rfl) fun a F => ?_
  refine lx_nil ?_
  repeat (first | refine ex_then ?_ | refine ex_block ?_ | refine wp_seq ?_ | refine wp_block ?_ | refine wp_skip ?_)
  refine wp_ret ?_
  repeat (first | refine ex_thenR ?_ | refine ex_blockR ?_)
  have hV2 : V = false := by rw [hV]; simp only [hb0, Bool.and_true, Bool.and_false, Bool.false_and, Bool.true_and]
  exact hV2 ▸ sx_ret F HM (res_tmp F rfl (s := 6) rfl)
 ·repeat (first | refine ex_then ?_ | refine ex_block ?_ | refine wp_seq ?_ | refine wp_block ?_ | refine wp_skip ?_)
  refine wp_region_lit ?_
  refine lx_value (v := .func (.func 72) #[] #[.pointer (some ⟨gp, 0, none⟩), .pointer (some ⟨gg, 0, none⟩), .pointer (some ⟨gq, 0, none⟩)]) F (wanted_none rfl _) rfl (by rfl) (o_move (F.ev rfl)) fun a F => ?_
  refine lx_call F (wanted_none rfl _) rfl (by rfl) (run_callV Try.func72 (by kernel_rfl) (by rfl) (F.ev rfl) _) ((by have := ck1_any P Q G H N Y M Z _ _ _ _ _ w (HM.get 3 rfl) (HM.get 2 rfl) (HM.get 1 rfl) hN hM hP hQ; rw [hb0] at this; exact this)) fun a w z F => ?_
  replace HM := HM.on z
  clear z
  refine lx_value (v := .bool false) F (wanted_none rfl _) rfl (by rfl) (o_not (b := true) (r := false) (F.ev rfl) rfl) fun a F => ?_
  refine lx_nil ?_
  repeat (first | refine ex_then ?_ | refine ex_block ?_ | refine wp_seq ?_ | refine wp_block ?_ | refine wp_skip ?_)
  refine wp_cond_false (F.ev rfl) ?_
  repeat (first | refine ex_then ?_ | refine ex_block ?_ | refine wp_seq ?_ | refine wp_block ?_ | refine wp_skip ?_)
  refine wp_region_lit ?_
  refine lx_value (v := .int .i64 1) F (wanted_none rfl _) rfl (by rfl) (o_bin (u := .int .i64 0) (v := .int .i64 1) (fun ρ hx hy => by simp only [execOp, hx, hy]; simp [go_sem]; try rfl) (F.ev rfl) rfl) fun a F => ?_
  refine lx_value (v := .int .i64 1) F (wanted_none rfl _) rfl (by rfl) (o_move (F.ev rfl)) fun a F => ?_
  refine lx_nil ?_
  refine ex_then ?_
  refine ln_round ?_
  repeat (first | refine ex_then ?_ | refine ex_block ?_ | refine wp_seq ?_ | refine wp_block ?_ | refine wp_skip ?_)
  refine wp_region_lit ?_
  refine lx_value (v := .bool true) F (wanted_none rfl _) rfl (by rfl) (o_bin (u := .int .i64 1) (v := .int .i64 6) (fun ρ hx hy => by simp only [execOp, hx, hy]; simp [go_sem]) (F.ev rfl) rfl) fun a F => ?_
  refine lx_nil ?_
  repeat (first | refine ex_then ?_ | refine ex_block ?_ | refine wp_seq ?_ | refine wp_block ?_ | refine wp_skip ?_)
  refine wp_cond_true (F.ev rfl) ?_
  repeat (first | refine ex_then ?_ | refine ex_block ?_ | refine wp_seq ?_ | refine wp_block ?_ | refine wp_skip ?_)
  refine wp_region_lit ?_
  refine lx_value (v := .func (.func 73) #[] #[.pointer (some ⟨gg, 0, none⟩)]) F (wanted_none rfl _) rfl (by rfl) (o_index (i := 1) (F.ev rfl) (F.ev rfl) rfl) fun a F => ?_
  refine lx_value (v := .func (.func 73) #[] #[.pointer (some ⟨gg, 0, none⟩)]) F (wanted_none rfl _) rfl (by rfl) (o_assign (F.ev rfl)) fun a F => ?_
  refine lx_nil ?_
  rcases hb1 : (goesB Q P) with _ | _
  ·repeat (first | refine ex_then ?_ | refine ex_block ?_ | refine wp_seq ?_ | refine wp_block ?_ | refine wp_skip ?_)
   refine wp_region_lit ?_
   refine lx_value (v := .func (.func 73) #[] #[.pointer (some ⟨gg, 0, none⟩)]) F (wanted_none rfl _) rfl (by rfl) (o_move (F.ev rfl)) fun a F => ?_
   refine lx_call F (wanted_none rfl _) rfl (by rfl) (run_callV Try.func73 (by kernel_rfl) (by rfl) (F.ev rfl) _) ((by have := ck2_any P Q G H _ w (HM.get 3 rfl) hP hQ; rw [hb1] at this; exact this)) fun a w z F => ?_
   replace HM := HM.on z
   clear z
   refine lx_value (v := .bool true) F (wanted_none rfl _) rfl (by rfl) (o_not (b := false) (r := true) (F.ev rfl) rfl) fun a F => ?_
   refine lx_nil ?_
   repeat (first | refine ex_then ?_ | refine ex_block ?_ | refine wp_seq ?_ | refine wp_block ?_ | refine wp_skip ?_)
   refine wp_cond_true (F.ev rfl) ?_
   repeat (first | refine ex_then ?_ | refine ex_block ?_ | refine wp_seq ?_ | refine wp_block ?_ | refine wp_skip ?_)
   refine wp_region_lit ?_
   refine lx_value (v := .bool false) F (wanted_none rfl _) rfl (by rfl) (o_assign rfl) fun a F => ?_
   refine lx_nil ?_
   repeat (first | refine ex_then ?_ | refine ex_block ?_ | refine wp_seq ?_ | refine wp_block ?_ | refine wp_skip ?_)
   refine wp_ret ?_
   repeat (first | refine ex_thenR ?_ | refine ex_blockR ?_)
   have hV2 : V = false := by rw [hV]; simp only [hb0, hb1, Bool.and_true, Bool.and_false, Bool.false_and, Bool.true_and]
   exact hV2 ▸ sx_ret F HM (res_tmp F rfl (s := 6) rfl)
  ·repeat (first | refine ex_then ?_ | refine ex_block ?_ | refine wp_seq ?_ | refine wp_block ?_ | refine wp_skip ?_)
   refine wp_region_lit ?_
   refine lx_value (v := .func (.func 73) #[] #[.pointer (some ⟨gg, 0, none⟩)]) F (wanted_none rfl _) rfl (by rfl) (o_move (F.ev rfl)) fun a F => ?_
   refine lx_call F (wanted_none rfl _) rfl (by rfl) (run_callV Try.func73 (by kernel_rfl) (by rfl) (F.ev rfl) _) ((by have := ck2_any P Q G H _ w (HM.get 3 rfl) hP hQ; rw [hb1] at this; exact this)) fun a w z F => ?_
   replace HM := HM.on z
   clear z
   refine lx_value (v := .bool false) F (wanted_none rfl _) rfl (by rfl) (o_not (b := true) (r := false) (F.ev rfl) rfl) fun a F => ?_
   refine lx_nil ?_
   repeat (first | refine ex_then ?_ | refine ex_block ?_ | refine wp_seq ?_ | refine wp_block ?_ | refine wp_skip ?_)
   refine wp_cond_false (F.ev rfl) ?_
   repeat (first | refine ex_then ?_ | refine ex_block ?_ | refine wp_seq ?_ | refine wp_block ?_ | refine wp_skip ?_)
   refine wp_region_lit ?_
   refine lx_value (v := .int .i64 2) F (wanted_none rfl _) rfl (by rfl) (o_bin (u := .int .i64 1) (v := .int .i64 1) (fun ρ hx hy => by simp only [execOp, hx, hy]; simp [go_sem]; try rfl) (F.ev rfl) rfl) fun a F => ?_
   refine lx_value (v := .int .i64 2) F (wanted_none rfl _) rfl (by rfl) (o_move (F.ev rfl)) fun a F => ?_
   refine lx_nil ?_
   refine ex_then ?_
   refine ln_round ?_
   repeat (first | refine ex_then ?_ | refine ex_block ?_ | refine wp_seq ?_ | refine wp_block ?_ | refine wp_skip ?_)
   refine wp_region_lit ?_
   refine lx_value (v := .bool true) F (wanted_none rfl _) rfl (by rfl) (o_bin (u := .int .i64 2) (v := .int .i64 6) (fun ρ hx hy => by simp only [execOp, hx, hy]; simp [go_sem]) (F.ev rfl) rfl) fun a F => ?_
   refine lx_nil ?_
   repeat (first | refine ex_then ?_ | refine ex_block ?_ | refine wp_seq ?_ | refine wp_block ?_ | refine wp_skip ?_)
   refine wp_cond_true (F.ev rfl) ?_
   repeat (first | refine ex_then ?_ | refine ex_block ?_ | refine wp_seq ?_ | refine wp_block ?_ | refine wp_skip ?_)
   refine wp_region_lit ?_
   refine lx_value (v := .func (.func 75) #[] #[.pointer (some ⟨gp, 0, none⟩)]) F (wanted_none rfl _) rfl (by rfl) (o_index (i := 2) (F.ev rfl) (F.ev rfl) rfl) fun a F => ?_
   refine lx_value (v := .func (.func 75) #[] #[.pointer (some ⟨gp, 0, none⟩)]) F (wanted_none rfl _) rfl (by rfl) (o_assign (F.ev rfl)) fun a F => ?_
   refine lx_nil ?_
   rcases hb2 : (b3) with _ | _
   ·repeat (first | refine ex_then ?_ | refine ex_block ?_ | refine wp_seq ?_ | refine wp_block ?_ | refine wp_skip ?_)
    refine wp_region_lit ?_
    refine lx_value (v := .func (.func 75) #[] #[.pointer (some ⟨gp, 0, none⟩)]) F (wanted_none rfl _) rfl (by rfl) (o_move (F.ev rfl)) fun a F => ?_
    refine lx_call F (wanted_none rfl _) rfl (by rfl) (run_callV Try.func75 (by kernel_rfl) (by rfl) (F.ev rfl) _) ((by have := ck3_any N Y _ _ b3 w (HM.get 2 rfl) (fun u hb => c3 u (bel_tr HM.bel hb)); rw [hb2] at this; exact this)) fun a w z F => ?_
    replace HM := HM.on z
    clear z
    refine lx_value (v := .bool true) F (wanted_none rfl _) rfl (by rfl) (o_not (b := false) (r := true) (F.ev rfl) rfl) fun a F => ?_
    refine lx_nil ?_
    repeat (first | refine ex_then ?_ | refine ex_block ?_ | refine wp_seq ?_ | refine wp_block ?_ | refine wp_skip ?_)
    refine wp_cond_true (F.ev rfl) ?_
    repeat (first | refine ex_then ?_ | refine ex_block ?_ | refine wp_seq ?_ | refine wp_block ?_ | refine wp_skip ?_)
    refine wp_region_lit ?_
    refine lx_value (v := .bool false) F (wanted_none rfl _) rfl (by rfl) (o_assign rfl) fun a F => ?_
    refine lx_nil ?_
    repeat (first | refine ex_then ?_ | refine ex_block ?_ | refine wp_seq ?_ | refine wp_block ?_ | refine wp_skip ?_)
    refine wp_ret ?_
    repeat (first | refine ex_thenR ?_ | refine ex_blockR ?_)
    have hV2 : V = false := by rw [hV]; simp only [hb0, hb1, hb2, Bool.and_true, Bool.and_false, Bool.false_and, Bool.true_and]
    exact hV2 ▸ sx_ret F HM (res_tmp F rfl (s := 6) rfl)
   ·repeat (first | refine ex_then ?_ | refine ex_block ?_ | refine wp_seq ?_ | refine wp_block ?_ | refine wp_skip ?_)
    refine wp_region_lit ?_
    refine lx_value (v := .func (.func 75) #[] #[.pointer (some ⟨gp, 0, none⟩)]) F (wanted_none rfl _) rfl (by rfl) (o_move (F.ev rfl)) fun a F => ?_
    refine lx_call F (wanted_none rfl _) rfl (by rfl) (run_callV Try.func75 (by kernel_rfl) (by rfl) (F.ev rfl) _) ((by have := ck3_any N Y _ _ b3 w (HM.get 2 rfl) (fun u hb => c3 u (bel_tr HM.bel hb)); rw [hb2] at this; exact this)) fun a w z F => ?_
    replace HM := HM.on z
    clear z
    refine lx_value (v := .bool false) F (wanted_none rfl _) rfl (by rfl) (o_not (b := true) (r := false) (F.ev rfl) rfl) fun a F => ?_
    refine lx_nil ?_
    repeat (first | refine ex_then ?_ | refine ex_block ?_ | refine wp_seq ?_ | refine wp_block ?_ | refine wp_skip ?_)
    refine wp_cond_false (F.ev rfl) ?_
    repeat (first | refine ex_then ?_ | refine ex_block ?_ | refine wp_seq ?_ | refine wp_block ?_ | refine wp_skip ?_)
    refine wp_region_lit ?_
    refine lx_value (v := .int .i64 3) F (wanted_none rfl _) rfl (by rfl) (o_bin (u := .int .i64 2) (v := .int .i64 1) (fun ρ hx hy => by simp only [execOp, hx, hy]; simp [go_sem]; try rfl) (F.ev rfl) rfl) fun a F => ?_
    refine lx_value (v := .int .i64 3) F (wanted_none rfl _) rfl (by rfl) (o_move (F.ev rfl)) fun a F => ?_
    refine lx_nil ?_
    refine ex_then ?_
    refine ln_round ?_
    repeat (first | refine ex_then ?_ | refine ex_block ?_ | refine wp_seq ?_ | refine wp_block ?_ | refine wp_skip ?_)
    refine wp_region_lit ?_
    refine lx_value (v := .bool true) F (wanted_none rfl _) rfl (by rfl) (o_bin (u := .int .i64 3) (v := .int .i64 6) (fun ρ hx hy => by simp only [execOp, hx, hy]; simp [go_sem]) (F.ev rfl) rfl) fun a F => ?_
    refine lx_nil ?_
    repeat (first | refine ex_then ?_ | refine ex_block ?_ | refine wp_seq ?_ | refine wp_block ?_ | refine wp_skip ?_)
    refine wp_cond_true (F.ev rfl) ?_
    repeat (first | refine ex_then ?_ | refine ex_block ?_ | refine wp_seq ?_ | refine wp_block ?_ | refine wp_skip ?_)
    refine wp_region_lit ?_
    refine lx_value (v := .func (.func 76) #[] #[.pointer (some ⟨gq, 0, none⟩)]) F (wanted_none rfl _) rfl (by rfl) (o_index (i := 3) (F.ev rfl) (F.ev rfl) rfl) fun a F => ?_
    refine lx_value (v := .func (.func 76) #[] #[.pointer (some ⟨gq, 0, none⟩)]) F (wanted_none rfl _) rfl (by rfl) (o_assign (F.ev rfl)) fun a F => ?_
    refine lx_nil ?_
    rcases hb3 : (b4) with _ | _
    ·repeat (first | refine ex_then ?_ | refine ex_block ?_ | refine wp_seq ?_ | refine wp_block ?_ | refine wp_skip ?_)
     refine wp_region_lit ?_
     refine lx_value (v := .func (.func 76) #[] #[.pointer (some ⟨gq, 0, none⟩)]) F (wanted_none rfl _) rfl (by rfl) (o_move (F.ev rfl)) fun a F => ?_
     refine lx_call F (wanted_none rfl _) rfl (by rfl) (run_callV Try.func76 (by kernel_rfl) (by rfl) (F.ev rfl) _) ((by have := ck4_any M Z _ _ b4 w (HM.get 1 rfl) (fun u hb => c4 u (bel_tr HM.bel hb)); rw [hb3] at this; exact this)) fun a w z F => ?_
     replace HM := HM.on z
     clear z
     refine lx_value (v := .bool true) F (wanted_none rfl _) rfl (by rfl) (o_not (b := false) (r := true) (F.ev rfl) rfl) fun a F => ?_
     refine lx_nil ?_
     repeat (first | refine ex_then ?_ | refine ex_block ?_ | refine wp_seq ?_ | refine wp_block ?_ | refine wp_skip ?_)
     refine wp_cond_true (F.ev rfl) ?_
     repeat (first | refine ex_then ?_ | refine ex_block ?_ | refine wp_seq ?_ | refine wp_block ?_ | refine wp_skip ?_)
     refine wp_region_lit ?_
     refine lx_value (v := .bool false) F (wanted_none rfl _) rfl (by rfl) (o_assign rfl) fun a F => ?_
     refine lx_nil ?_
     repeat (first | refine ex_then ?_ | refine ex_block ?_ | refine wp_seq ?_ | refine wp_block ?_ | refine wp_skip ?_)
     refine wp_ret ?_
     repeat (first | refine ex_thenR ?_ | refine ex_blockR ?_)
     have hV2 : V = false := by rw [hV]; simp only [hb0, hb1, hb2, hb3, Bool.and_true, Bool.and_false, Bool.false_and, Bool.true_and]
     exact hV2 ▸ sx_ret F HM (res_tmp F rfl (s := 6) rfl)
    ·repeat (first | refine ex_then ?_ | refine ex_block ?_ | refine wp_seq ?_ | refine wp_block ?_ | refine wp_skip ?_)
     refine wp_region_lit ?_
     refine lx_value (v := .func (.func 76) #[] #[.pointer (some ⟨gq, 0, none⟩)]) F (wanted_none rfl _) rfl (by rfl) (o_move (F.ev rfl)) fun a F => ?_
     refine lx_call F (wanted_none rfl _) rfl (by rfl) (run_callV Try.func76 (by kernel_rfl) (by rfl) (F.ev rfl) _) ((by have := ck4_any M Z _ _ b4 w (HM.get 1 rfl) (fun u hb => c4 u (bel_tr HM.bel hb)); rw [hb3] at this; exact this)) fun a w z F => ?_
     replace HM := HM.on z
     clear z
     refine lx_value (v := .bool false) F (wanted_none rfl _) rfl (by rfl) (o_not (b := true) (r := false) (F.ev rfl) rfl) fun a F => ?_
     refine lx_nil ?_
     repeat (first | refine ex_then ?_ | refine ex_block ?_ | refine wp_seq ?_ | refine wp_block ?_ | refine wp_skip ?_)
     refine wp_cond_false (F.ev rfl) ?_
     repeat (first | refine ex_then ?_ | refine ex_block ?_ | refine wp_seq ?_ | refine wp_block ?_ | refine wp_skip ?_)
     refine wp_region_lit ?_
     refine lx_value (v := .int .i64 4) F (wanted_none rfl _) rfl (by rfl) (o_bin (u := .int .i64 3) (v := .int .i64 1) (fun ρ hx hy => by simp only [execOp, hx, hy]; simp [go_sem]; try rfl) (F.ev rfl) rfl) fun a F => ?_
     refine lx_value (v := .int .i64 4) F (wanted_none rfl _) rfl (by rfl) (o_move (F.ev rfl)) fun a F => ?_
     refine lx_nil ?_
     refine ex_then ?_
     refine ln_round ?_
     repeat (first | refine ex_then ?_ | refine ex_block ?_ | refine wp_seq ?_ | refine wp_block ?_ | refine wp_skip ?_)
     refine wp_region_lit ?_
     refine lx_value (v := .bool true) F (wanted_none rfl _) rfl (by rfl) (o_bin (u := .int .i64 4) (v := .int .i64 6) (fun ρ hx hy => by simp only [execOp, hx, hy]; simp [go_sem]) (F.ev rfl) rfl) fun a F => ?_
     refine lx_nil ?_
     repeat (first | refine ex_then ?_ | refine ex_block ?_ | refine wp_seq ?_ | refine wp_block ?_ | refine wp_skip ?_)
     refine wp_cond_true (F.ev rfl) ?_
     repeat (first | refine ex_then ?_ | refine ex_block ?_ | refine wp_seq ?_ | refine wp_block ?_ | refine wp_skip ?_)
     refine wp_region_lit ?_
     refine lx_value (v := .func (.func 77) #[] #[.pointer (some ⟨gg, 0, none⟩)]) F (wanted_none rfl _) rfl (by rfl) (o_index (i := 4) (F.ev rfl) (F.ev rfl) rfl) fun a F => ?_
     refine lx_value (v := .func (.func 77) #[] #[.pointer (some ⟨gg, 0, none⟩)]) F (wanted_none rfl _) rfl (by rfl) (o_assign (F.ev rfl)) fun a F => ?_
     refine lx_nil ?_
     rcases hb4 : (genB P Q G) with _ | _
     ·repeat (first | refine ex_then ?_ | refine ex_block ?_ | refine wp_seq ?_ | refine wp_block ?_ | refine wp_skip ?_)
      refine wp_region_lit ?_
      refine lx_value (v := .func (.func 77) #[] #[.pointer (some ⟨gg, 0, none⟩)]) F (wanted_none rfl _) rfl (by rfl) (o_move (F.ev rfl)) fun a F => ?_
      refine lx_call F (wanted_none rfl _) rfl (by rfl) (run_callV Try.func77 (by kernel_rfl) (by rfl) (F.ev rfl) _) ((by have := ck5_any P Q G H _ w (HM.get 3 rfl) hP hQ hG; rw [hb4] at this; exact this)) fun a w z F => ?_
      replace HM := HM.on z
      clear z
      refine lx_value (v := .bool true) F (wanted_none rfl _) rfl (by rfl) (o_not (b := false) (r := true) (F.ev rfl) rfl) fun a F => ?_
      refine lx_nil ?_
      repeat (first | refine ex_then ?_ | refine ex_block ?_ | refine wp_seq ?_ | refine wp_block ?_ | refine wp_skip ?_)
      refine wp_cond_true (F.ev rfl) ?_
      repeat (first | refine ex_then ?_ | refine ex_block ?_ | refine wp_seq ?_ | refine wp_block ?_ | refine wp_skip ?_)
      refine wp_region_lit ?_
      refine lx_value (v := .bool false) F (wanted_none rfl _) rfl (by rfl) (o_assign rfl) fun a F => ?_
      refine lx_nil ?_
      repeat (first | refine ex_then ?_ | refine ex_block ?_ | refine wp_seq ?_ | refine wp_block ?_ | refine wp_skip ?_)
      refine wp_ret ?_
      repeat (first | refine ex_thenR ?_ | refine ex_blockR ?_)
      have hV2 : V = false := by rw [hV]; simp only [hb0, hb1, hb2, hb3, hb4, Bool.and_true, Bool.and_false, Bool.false_and, Bool.true_and]
      exact hV2 ▸ sx_ret F HM (res_tmp F rfl (s := 6) rfl)
     ·repeat (first | refine ex_then ?_ | refine ex_block ?_ | refine wp_seq ?_ | refine wp_block ?_ | refine wp_skip ?_)
      refine wp_region_lit ?_
      refine lx_value (v := .func (.func 77) #[] #[.pointer (some ⟨gg, 0, none⟩)]) F (wanted_none rfl _) rfl (by rfl) (o_move (F.ev rfl)) fun a F => ?_
      refine lx_call F (wanted_none rfl _) rfl (by rfl) (run_callV Try.func77 (by kernel_rfl) (by rfl) (F.ev rfl) _) ((by have := ck5_any P Q G H _ w (HM.get 3 rfl) hP hQ hG; rw [hb4] at this; exact this)) fun a w z F => ?_
      replace HM := HM.on z
      clear z
      refine lx_value (v := .bool false) F (wanted_none rfl _) rfl (by rfl) (o_not (b := true) (r := false) (F.ev rfl) rfl) fun a F => ?_
      refine lx_nil ?_
      repeat (first | refine ex_then ?_ | refine ex_block ?_ | refine wp_seq ?_ | refine wp_block ?_ | refine wp_skip ?_)
      refine wp_cond_false (F.ev rfl) ?_
      repeat (first | refine ex_then ?_ | refine ex_block ?_ | refine wp_seq ?_ | refine wp_block ?_ | refine wp_skip ?_)
      refine wp_region_lit ?_
      refine lx_value (v := .int .i64 5) F (wanted_none rfl _) rfl (by rfl) (o_bin (u := .int .i64 4) (v := .int .i64 1) (fun ρ hx hy => by simp only [execOp, hx, hy]; simp [go_sem]; try rfl) (F.ev rfl) rfl) fun a F => ?_
      refine lx_value (v := .int .i64 5) F (wanted_none rfl _) rfl (by rfl) (o_move (F.ev rfl)) fun a F => ?_
      refine lx_nil ?_
      refine ex_then ?_
      refine ln_round ?_
      repeat (first | refine ex_then ?_ | refine ex_block ?_ | refine wp_seq ?_ | refine wp_block ?_ | refine wp_skip ?_)
      refine wp_region_lit ?_
      refine lx_value (v := .bool true) F (wanted_none rfl _) rfl (by rfl) (o_bin (u := .int .i64 5) (v := .int .i64 6) (fun ρ hx hy => by simp only [execOp, hx, hy]; simp [go_sem]) (F.ev rfl) rfl) fun a F => ?_
      refine lx_nil ?_
      repeat (first | refine ex_then ?_ | refine ex_block ?_ | refine wp_seq ?_ | refine wp_block ?_ | refine wp_skip ?_)
      refine wp_cond_true (F.ev rfl) ?_
      repeat (first | refine ex_then ?_ | refine ex_block ?_ | refine wp_seq ?_ | refine wp_block ?_ | refine wp_skip ?_)
      refine wp_region_lit ?_
      refine lx_value (v := .func (.func 79) #[] #[.pointer (some ⟨gg, 0, none⟩)]) F (wanted_none rfl _) rfl (by rfl) (o_index (i := 5) (F.ev rfl) (F.ev rfl) rfl) fun a F => ?_
      refine lx_value (v := .func (.func 79) #[] #[.pointer (some ⟨gg, 0, none⟩)]) F (wanted_none rfl _) rfl (by rfl) (o_assign (F.ev rfl)) fun a F => ?_
      refine lx_nil ?_
      rcases hb5 : (genB P Q H) with _ | _
      ·repeat (first | refine ex_then ?_ | refine ex_block ?_ | refine wp_seq ?_ | refine wp_block ?_ | refine wp_skip ?_)
       refine wp_region_lit ?_
       refine lx_value (v := .func (.func 79) #[] #[.pointer (some ⟨gg, 0, none⟩)]) F (wanted_none rfl _) rfl (by rfl) (o_move (F.ev rfl)) fun a F => ?_
       refine lx_call F (wanted_none rfl _) rfl (by rfl) (run_callV Try.func79 (by kernel_rfl) (by rfl) (F.ev rfl) _) ((by have := ck6_any P Q G H _ w (HM.get 3 rfl) hP hQ hH; rw [hb5] at this; exact this)) fun a w z F => ?_
       replace HM := HM.on z
       clear z
       refine lx_value (v := .bool true) F (wanted_none rfl _) rfl (by rfl) (o_not (b := false) (r := true) (F.ev rfl) rfl) fun a F => ?_
       refine lx_nil ?_
       repeat (first | refine ex_then ?_ | refine ex_block ?_ | refine wp_seq ?_ | refine wp_block ?_ | refine wp_skip ?_)
       refine wp_cond_true (F.ev rfl) ?_
       repeat (first | refine ex_then ?_ | refine ex_block ?_ | refine wp_seq ?_ | refine wp_block ?_ | refine wp_skip ?_)
       refine wp_region_lit ?_
       refine lx_value (v := .bool false) F (wanted_none rfl _) rfl (by rfl) (o_assign rfl) fun a F => ?_
       refine lx_nil ?_
       repeat (first | refine ex_then ?_ | refine ex_block ?_ | refine wp_seq ?_ | refine wp_block ?_ | refine wp_skip ?_)
       refine wp_ret ?_
       repeat (first | refine ex_thenR ?_ | refine ex_blockR ?_)
       have hV2 : V = false := by rw [hV]; simp only [hb0, hb1, hb2, hb3, hb4, hb5, Bool.and_true, Bool.and_false, Bool.false_and, Bool.true_and]
       exact hV2 ▸ sx_ret F HM (res_tmp F rfl (s := 6) rfl)
      ·repeat (first | refine ex_then ?_ | refine ex_block ?_ | refine wp_seq ?_ | refine wp_block ?_ | refine wp_skip ?_)
       refine wp_region_lit ?_
       refine lx_value (v := .func (.func 79) #[] #[.pointer (some ⟨gg, 0, none⟩)]) F (wanted_none rfl _) rfl (by rfl) (o_move (F.ev rfl)) fun a F => ?_
       refine lx_call F (wanted_none rfl _) rfl (by rfl) (run_callV Try.func79 (by kernel_rfl) (by rfl) (F.ev rfl) _) ((by have := ck6_any P Q G H _ w (HM.get 3 rfl) hP hQ hH; rw [hb5] at this; exact this)) fun a w z F => ?_
       replace HM := HM.on z
       clear z
       refine lx_value (v := .bool false) F (wanted_none rfl _) rfl (by rfl) (o_not (b := true) (r := false) (F.ev rfl) rfl) fun a F => ?_
       refine lx_nil ?_
       repeat (first | refine ex_then ?_ | refine ex_block ?_ | refine wp_seq ?_ | refine wp_block ?_ | refine wp_skip ?_)
       refine wp_cond_false (F.ev rfl) ?_
       repeat (first | refine ex_then ?_ | refine ex_block ?_ | refine wp_seq ?_ | refine wp_block ?_ | refine wp_skip ?_)
       refine wp_region_lit ?_
       refine lx_value (v := .int .i64 6) F (wanted_none rfl _) rfl (by rfl) (o_bin (u := .int .i64 5) (v := .int .i64 1) (fun ρ hx hy => by simp only [execOp, hx, hy]; simp [go_sem]; try rfl) (F.ev rfl) rfl) fun a F => ?_
       refine lx_value (v := .int .i64 6) F (wanted_none rfl _) rfl (by rfl) (o_move (F.ev rfl)) fun a F => ?_
       refine lx_nil ?_
       refine ex_then ?_
       refine ln_round ?_
       repeat (first | refine ex_then ?_ | refine ex_block ?_ | refine wp_seq ?_ | refine wp_block ?_ | refine wp_skip ?_)
       refine wp_region_lit ?_
       refine lx_value (v := .bool false) F (wanted_none rfl _) rfl (by rfl) (o_bin (u := .int .i64 6) (v := .int .i64 6) (fun ρ hx hy => by simp only [execOp, hx, hy]; simp [go_sem]) (F.ev rfl) rfl) fun a F => ?_
       refine lx_nil ?_
       repeat (first | refine ex_then ?_ | refine ex_block ?_ | refine wp_seq ?_ | refine wp_block ?_ | refine wp_skip ?_)
       refine wp_cond_false (F.ev rfl) ?_
       repeat (first | refine ex_then ?_ | refine ex_block ?_ | refine wp_seq ?_ | refine wp_block ?_ | refine wp_skip ?_)
       refine wp_exit ?_
       repeat (first | refine ex_thenE ?_ | refine ex_blockE ?_)
       repeat (first | refine ex_then ?_ | refine ex_block ?_ | refine wp_seq ?_ | refine wp_block ?_ | refine wp_skip ?_)
       repeat (first | refine ex_then ?_ | refine ex_block ?_ | refine wp_seq ?_ | refine wp_block ?_ | refine wp_skip ?_)
       refine wp_region_lit ?_
       refine lx_value (v := .bool true) F (wanted_none rfl _) rfl (by rfl) (o_assign rfl) fun a F => ?_
       refine lx_nil ?_
       repeat (first | refine ex_then ?_ | refine ex_block ?_ | refine wp_seq ?_ | refine wp_block ?_ | refine wp_skip ?_)
       refine wp_ret ?_
       repeat (first | refine ex_thenR ?_ | refine ex_blockR ?_)
       have hV2 : V = true := by rw [hV]; simp only [hb0, hb1, hb2, hb3, hb4, hb5, Bool.and_true, Bool.and_false, Bool.false_and, Bool.true_and]
       exact hV2 ▸ sx_ret F HM (res_tmp F rfl (s := 6) rfl)

theorem check8_any (P Q G H : Nat) (r1 r2 : Pr.Rsn) (pa pb : Option Addr) (ca cb : Nat) (w : World) (hP : P < 2 ^ 256) (hQ : Q < 2 ^ 256) (hG : G < 2 ^ 256) (hH : H < 2 ^ 256) (h1 : r1.n < 2 ^ 256) (h2 : r2.n < 2 ^ 256) (y1 : r1.w < 2 ^ 256) (y2 : r2.w < 2 ^ 256)
  (s1 : Sl w pa ca r1.ps) (s2 : Sl w pb cb r2.ps) : Calls Try.prog 47 #[grp P Q G H, rv r1.n r1.w (.slice pa r1.ps.length ca), rv r2.n r2.w (.slice pb r2.ps.length cb)] w fun e w' => e = .returned (.bool ((decide (r1.n = P) && decide (r2.n = Q)) && goesB Q P && r1.holds && r2.holds && genB P Q G && genB P Q H)) ∧ Below w.heap.size w w' :=
 check8_w P Q G H r1.n r1.w r2.n r2.w _ ca _ cb pa pb r1.holds r2.holds _ w hP hQ hG hH h1 h2 (fun u hb => check_any r1 pa ca h1 y1 u (s1.on hb)) (fun u hb => check_any r2 pb cb h2 y2 u (s2.on hb)) rfl
end Go.Proofs.Ytbggihkigblnfaa
