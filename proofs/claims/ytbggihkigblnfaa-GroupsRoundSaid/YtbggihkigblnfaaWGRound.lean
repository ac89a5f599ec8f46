/-
 GroupsRound: walked.
-/
import Derived.Deep.Cut
import Derived.Test.YtbggihkigblnfaaWGClosed
import Derived.Test.YtbggihkigblnfaaWTree
namespace Go.Proofs.Ytbggihkigblnfaa
set_option maxRecDepth 100000
open Go.RowKit
set_option linter.unusedSimpArgs false
set_option linter.unusedVariables false
attribute [local go_sem ↓] Go.wp_at_zero Go.wp_at_succ

set_option maxRecDepth 100000 in
set_option maxHeartbeats 8000000 in
theorem round_0 (P Q G H A N Y : Nat)
  (hQ : Q < 2 ^ 256)
  (hq : decide (Q = 0) = true)
  (w : World) : Calls Try.prog 6 #[grp P Q G H, num A, arr2 N Y] w fun e w' => e = .returned (.bool true) ∧ Below w.heap.size w w' := by
 refine sx_enter (args := [grp P Q G H, num A, arr2 N Y]) Try.func6 rfl Try.ntmps6 (by rfl) fun a F HM => ?_
 repeat (first | refine ex_then ?_ | refine ex_block ?_ | refine wp_seq ?_ | refine wp_block ?_ | refine wp_skip ?_)
 refine wp_region_lit ?_
 refine lx_new F HM (wanted_none rfl _) rfl (by rfl) (o_boxG (F.ev rfl)) fun a w gr F HM => ?_
 refine lx_new F HM (wanted_none rfl _) rfl (by rfl) (o_boxN (F.ev rfl)) fun a w ga F HM => ?_
 refine lx_new F HM (wanted_none rfl _) rfl (by rfl) (o_boxA (F.ev rfl)) fun a w gb F HM => ?_
 refine lx_value (v := .bool false) F (wanted_none rfl _) rfl (by rfl) (o_assign rfl) fun a F => ?_
 refine lx_nil ?_
 repeat (first | refine ex_then ?_ | refine ex_block ?_ | refine wp_seq ?_ | refine wp_block ?_ | refine wp_skip ?_)
 try simp only [List.append_eq, List.cons_append, List.nil_append]
 refine sx_drawn [⟨0, 33, [], .val (.pointer (some ⟨gr, 4, none⟩)), true⟩,
   ⟨1, 34, [0], .val (num Q), true⟩,
   ⟨2, 35, [1], .val (num 0), false⟩,
   ⟨3, 36, [1, 2], .val (.bool true), true⟩,
   ⟨4, 37, [3], .val (.bool true), true⟩,
   ⟨5, 38, [4], .val undef, true⟩,
   ⟨6, 39, [4, 5], .val undef, true⟩,
   ⟨7, 40, [4, 5, 6], .val undef, true⟩,
   ⟨8, 41, [4, 7], .val undef, true⟩,
   ⟨9, 42, [4, 8], .val (.bool true), true⟩] 0 F HM (by kernel_rfl) (by rfl) (by rfl) ?_ ?_ ?_ ?_ ?_ ?_ ?_
 ·kernel_rfl
 ·exact of_decide_eq_true (by kernel_rfl)
 ·(repeat refine all_cons ⟨_, by rfl, by rfl⟩ ?_); exact all_nil
 ·kernel_rfl
 ·(repeat (refine all_cons ?_ ?_; rotate_left)); exact all_nil
  ·exact coreS _ _ _ _ _ _ _ (by rfl) (by rfl) (wants_none) (fun ρ w kn hs => o_fieldG1 (kn _ _ (F.old (by rfl) rfl)))
  ·exact coreS _ _ _ _ _ _ _ (by rfl) (by rfl) (wants_none) (fun ρ w kn hs => o_loadG1 (kn _ _ (kc 0 33)) (hs.get 2 rfl))
  ·exact core_pureAs _ (by rfl)
  ·exact coreS _ _ _ _ _ _ _ (by rfl) (by rfl) (wants_none) (fun ρ w kn hs => o_eqlN hQ (show 0 < 2 ^ 256 by decide) hq (kn _ _ (kc 1 34)) (kn _ _ (kc 2 35)))
  ·exact coreS _ _ _ _ _ _ _ (by rfl) (by rfl) (wants_none) (fun ρ w kn hs => o_move (kn _ _ (kc 3 36)))
  ·exact coreG_skip _ _ _ _ _ _ (by rfl) (by rfl) (wc 4 37 4 (kc 4 37))
  ·exact coreG_skip _ _ _ _ _ _ (by rfl) (by rfl) (wc 4 37 4 (kc 4 37))
  ·exact coreG_skip _ _ _ _ _ _ (by rfl) (by rfl) (wc 4 37 4 (kc 4 37))
  ·exact coreG_skip _ _ _ _ _ _ (by rfl) (by rfl) (wc 4 37 4 (kc 4 37))
  ·exact coreS _ _ _ _ _ _ _ (by rfl) (by rfl) (wants_none) (fun ρ w kn hs => o_pick (b := true) (r := .bool true) (kn _ _ (kc 4 37)) (kn _ _ (known_const _)) (kn _ _ (kc 8 41)) rfl)
 ·(repeat (refine all_cons ?_ ?_; rotate_left)); exact all_nil
  ·exact sA
  ·exact sA
  ·exact fun _ => coreG_call _ 22 _ _ [.const (.int .u64 0)] _ _ _ _ _ _ _ (by rfl) Try.func22 (by kernel_rfl) (by rfl) (by rfl) (wants_none) (.cons (known_const _) .nil) ((fun w => of8_any 0 (by decide) w))
  ·exact sA
  ·exact sA
  ·exact sA
  ·exact sA
  ·exact sA
  ·exact sA
  ·exact sA
 intro gs rs a w hgs hrs F HM
 obtain rfl := nl0 rs hrs
 clear hrs
 obtain rfl := nl0 gs hgs
 clear hgs
 refine sx_done (by kernel_rfl) ?_ _
 repeat (first | refine ex_then ?_ | refine ex_block ?_ | refine wp_seq ?_ | refine wp_block ?_ | refine wp_skip ?_)
 refine wp_cond_true (F.ev rfl) ?_
 repeat (first | refine ex_then ?_ | refine ex_block ?_ | refine wp_seq ?_ | refine wp_block ?_ | refine wp_skip ?_)
 refine wp_region_lit ?_
 refine lx_call F (wanted_none rfl _) rfl (by rfl) (run_callF Try.func23 (by kernel_rfl) (by rfl) .nil _) (alive8_any _) fun a w z F => ?_
 replace HM := HM.on z
 clear z
 refine lx_value (v := .bool true) F (wanted_none rfl _) rfl (by rfl) (o_assign (F.ev rfl)) fun a F => ?_
 refine lx_nil ?_
 repeat (first | refine ex_then ?_ | refine ex_block ?_ | refine wp_seq ?_ | refine wp_block ?_ | refine wp_skip ?_)
 refine wp_ret ?_
 repeat (first | refine ex_thenR ?_ | refine ex_blockR ?_)
 exact sx_ret F HM (res_tmp F rfl (s := 6) rfl)

set_option maxRecDepth 100000 in
set_option maxHeartbeats 8000000 in
theorem round_1 (P Q G H A N Y : Nat)
  (hQ : Q < 2 ^ 256)
  (hq : decide (Q = 0) = false)
  (i1 : ∀ w, Calls Try.prog 20 #[grp P Q G H, num A] w fun e w' => e = .returned (.bool false) ∧ Below w.heap.size w w')
  (w : World) : Calls Try.prog 6 #[grp P Q G H, num A, arr2 N Y] w fun e w' => e = .returned (.bool true) ∧ Below w.heap.size w w' := by
 refine sx_enter (args := [grp P Q G H, num A, arr2 N Y]) Try.func6 rfl Try.ntmps6 (by rfl) fun a F HM => ?_
 repeat (first | refine ex_then ?_ | refine ex_block ?_ | refine wp_seq ?_ | refine wp_block ?_ | refine wp_skip ?_)
 refine wp_region_lit ?_
 refine lx_new F HM (wanted_none rfl _) rfl (by rfl) (o_boxG (F.ev rfl)) fun a w gr F HM => ?_
 refine lx_new F HM (wanted_none rfl _) rfl (by rfl) (o_boxN (F.ev rfl)) fun a w ga F HM => ?_
 refine lx_new F HM (wanted_none rfl _) rfl (by rfl) (o_boxA (F.ev rfl)) fun a w gb F HM => ?_
 refine lx_value (v := .bool false) F (wanted_none rfl _) rfl (by rfl) (o_assign rfl) fun a F => ?_
 refine lx_nil ?_
 repeat (first | refine ex_then ?_ | refine ex_block ?_ | refine wp_seq ?_ | refine wp_block ?_ | refine wp_skip ?_)
 try simp only [List.append_eq, List.cons_append, List.nil_append]
 refine sx_drawn [⟨0, 33, [], .val (.pointer (some ⟨gr, 4, none⟩)), true⟩,
   ⟨1, 34, [0], .val (num Q), true⟩,
   ⟨2, 35, [1], .val (num 0), false⟩,
   ⟨3, 36, [1, 2], .val (.bool false), true⟩,
   ⟨4, 37, [3], .val (.bool false), true⟩,
   ⟨5, 38, [4], .val (grp P Q G H), true⟩,
   ⟨6, 39, [4, 5], .val (num A), true⟩,
   ⟨7, 40, [4, 5, 6], .val (.bool false), false⟩,
   ⟨8, 41, [4, 7], .val (.bool true), true⟩,
   ⟨9, 42, [4, 8], .val (.bool true), true⟩] 0 F HM (by kernel_rfl) (by rfl) (by rfl) ?_ ?_ ?_ ?_ ?_ ?_ ?_
 ·kernel_rfl
 ·exact of_decide_eq_true (by kernel_rfl)
 ·(repeat refine all_cons ⟨_, by rfl, by rfl⟩ ?_); exact all_nil
 ·kernel_rfl
 ·(repeat (refine all_cons ?_ ?_; rotate_left)); exact all_nil
  ·exact coreS _ _ _ _ _ _ _ (by rfl) (by rfl) (wants_none) (fun ρ w kn hs => o_fieldG1 (kn _ _ (F.old (by rfl) rfl)))
  ·exact coreS _ _ _ _ _ _ _ (by rfl) (by rfl) (wants_none) (fun ρ w kn hs => o_loadG1 (kn _ _ (kc 0 33)) (hs.get 2 rfl))
  ·exact core_pureAs _ (by rfl)
  ·exact coreS _ _ _ _ _ _ _ (by rfl) (by rfl) (wants_none) (fun ρ w kn hs => o_eqlN hQ (show 0 < 2 ^ 256 by decide) hq (kn _ _ (kc 1 34)) (kn _ _ (kc 2 35)))
  ·exact coreS _ _ _ _ _ _ _ (by rfl) (by rfl) (wants_none) (fun ρ w kn hs => o_move (kn _ _ (kc 3 36)))
  ·exact coreS _ _ _ _ _ _ _ (by rfl) (by rfl) (wc 4 37 4 (kc 4 37)) (fun ρ w kn hs => o_loadG (kn _ _ (F.old (by rfl) rfl)) (hs.get 2 rfl))
  ·exact coreS _ _ _ _ _ _ _ (by rfl) (by rfl) (wc 4 37 4 (kc 4 37)) (fun ρ w kn hs => o_loadN (kn _ _ (F.old (by rfl) rfl)) (hs.get 1 rfl))
  ·exact core_pureAs _ (by rfl)
  ·exact coreS _ _ _ _ _ _ _ (by rfl) (by rfl) (wc 4 37 4 (kc 4 37)) (fun ρ w kn hs => o_not (b := false) (r := true) (kn _ _ (kc 7 40)) rfl)
  ·exact coreS _ _ _ _ _ _ _ (by rfl) (by rfl) (wants_none) (fun ρ w kn hs => o_pick (b := false) (r := .bool true) (kn _ _ (kc 4 37)) (kn _ _ (known_const _)) (kn _ _ (kc 8 41)) rfl)
 ·(repeat (refine all_cons ?_ ?_; rotate_left)); exact all_nil
  ·exact sA
  ·exact sA
  ·exact fun _ => coreG_call _ 22 _ _ [.const (.int .u64 0)] _ _ _ _ _ _ _ (by rfl) Try.func22 (by kernel_rfl) (by rfl) (by rfl) (wants_none) (.cons (known_const _) .nil) ((fun w => of8_any 0 (by decide) w))
  ·exact sA
  ·exact sA
  ·exact sA
  ·exact sA
  ·exact fun _ => coreG_call _ 20 _ _ [.tmp 38, .tmp 39] _ _ _ _ _ _ _ (by rfl) Try.func20 (by kernel_rfl) (by rfl) (by rfl) (wc 4 37 4 (kc 4 37)) (.cons (kc 5 38) (.cons (kc 6 39) .nil)) (i1)
  ·exact sA
  ·exact sA
 intro gs rs a w hgs hrs F HM
 obtain rfl := nl0 rs hrs
 clear hrs
 obtain rfl := nl0 gs hgs
 clear hgs
 refine sx_done (by kernel_rfl) ?_ _
 repeat (first | refine ex_then ?_ | refine ex_block ?_ | refine wp_seq ?_ | refine wp_block ?_ | refine wp_skip ?_)
 refine wp_cond_true (F.ev rfl) ?_
 repeat (first | refine ex_then ?_ | refine ex_block ?_ | refine wp_seq ?_ | refine wp_block ?_ | refine wp_skip ?_)
 refine wp_region_lit ?_
 refine lx_call F (wanted_none rfl _) rfl (by rfl) (run_callF Try.func23 (by kernel_rfl) (by rfl) .nil _) (alive8_any _) fun a w z F => ?_
 replace HM := HM.on z
 clear z
 refine lx_value (v := .bool true) F (wanted_none rfl _) rfl (by rfl) (o_assign (F.ev rfl)) fun a F => ?_
 refine lx_nil ?_
 repeat (first | refine ex_then ?_ | refine ex_block ?_ | refine wp_seq ?_ | refine wp_block ?_ | refine wp_skip ?_)
 refine wp_ret ?_
 repeat (first | refine ex_thenR ?_ | refine ex_blockR ?_)
 exact sx_ret F HM (res_tmp F rfl (s := 6) rfl)

set_option maxRecDepth 100000 in
set_option maxHeartbeats 8000000 in
theorem round_2 (P Q G H A N Y k D r x z Lo Hi ee u m S c ff : Nat)
  (hQ : Q < 2 ^ 256)
  (hq : decide (Q = 0) = false)
  (i1 : ∀ w, Calls Try.prog 20 #[grp P Q G H, num A] w fun e w' => e = .returned (.bool true) ∧ Below w.heap.size w w')
  (ck : ∀ w, Calls Try.prog 22 #[.int .u64 ((wd Y 0 % 4294967296 : Nat) : Int)] w fun e w' => e = .returned (num k) ∧ Below w.heap.size w w')
  (cd : ∀ w, Calls Try.prog 24 #[num N, num Q] w fun e w' => e = .returned (.tuple #[num D, num r, .int .i64 0]) ∧ Below w.heap.size w w')
  (c1 : ∀ w, Calls Try.prog 16 #[grp P Q G H, num A, num N] w fun e w' => e = .returned (.tuple #[num x, .int .i64 0]) ∧ Below w.heap.size w w')
  (c2 : ∀ w, Calls Try.prog 16 #[grp P Q G H, num A, num r] w fun e w' => e = .returned (.tuple #[num x, .int .i64 0]) ∧ Below w.heap.size w w')
  (c3 : ∀ w, Calls Try.prog 16 #[grp P Q G H, num x, num k] w fun e w' => e = .returned (.tuple #[num z, .int .i64 0]) ∧ Below w.heap.size w w')
  (cm : ∀ w, Calls Try.prog 25 #[num N, num k] w fun e w' => e = .returned (.tuple #[num Lo, num Hi]) ∧ Below w.heap.size w w')
  (cw : ∀ w, Calls Try.prog 26 #[num Lo, num Hi, num Q] w fun e w' => e = .returned (.tuple #[num ee, .int .i64 0]) ∧ Below w.heap.size w w')
  (c4 : ∀ w, Calls Try.prog 16 #[grp P Q G H, num A, num ee] w fun e w' => e = .returned (.tuple #[num z, .int .i64 0]) ∧ Below w.heap.size w w')
  (c5 : ∀ w, Calls Try.prog 16 #[grp P Q G H, num A, num k] w fun e w' => e = .returned (.tuple #[num u, .int .i64 0]) ∧ Below w.heap.size w w')
  (c6 : ∀ w, Calls Try.prog 14 #[grp P Q G H, num x, num u] w fun e w' => e = .returned (.tuple #[num m, .int .i64 0]) ∧ Below w.heap.size w w')
  (ca : ∀ w, Calls Try.prog 27 #[num N, num k] w fun e w' => e = .returned (.tuple #[num S, .int .u64 (c : Nat)]) ∧ Below w.heap.size w w')
  (co : ∀ w, Calls Try.prog 22 #[.int .u64 (c : Nat)] w fun e w' => e = .returned (num c) ∧ Below w.heap.size w w')
  (cw2 : ∀ w, Calls Try.prog 26 #[num S, num c, num Q] w fun e w' => e = .returned (.tuple #[num ff, .int .i64 0]) ∧ Below w.heap.size w w')
  (c7 : ∀ w, Calls Try.prog 16 #[grp P Q G H, num A, num ff] w fun e w' => e = .returned (.tuple #[num m, .int .i64 0]) ∧ Below w.heap.size w w')
  (w : World) : Calls Try.prog 6 #[grp P Q G H, num A, arr2 N Y] w fun e w' => e = .returned (.bool true) ∧ Below w.heap.size w w' := by
 refine sx_enter (args := [grp P Q G H, num A, arr2 N Y]) Try.func6 rfl Try.ntmps6 (by rfl) fun a F HM => ?_
 repeat (first | refine ex_then ?_ | refine ex_block ?_ | refine wp_seq ?_ | refine wp_block ?_ | refine wp_skip ?_)
 refine wp_region_lit ?_
 refine lx_new F HM (wanted_none rfl _) rfl (by rfl) (o_boxG (F.ev rfl)) fun a w gr F HM => ?_
 refine lx_new F HM (wanted_none rfl _) rfl (by rfl) (o_boxN (F.ev rfl)) fun a w ga F HM => ?_
 refine lx_new F HM (wanted_none rfl _) rfl (by rfl) (o_boxA (F.ev rfl)) fun a w gb F HM => ?_
 refine lx_value (v := .bool false) F (wanted_none rfl _) rfl (by rfl) (o_assign rfl) fun a F => ?_
 refine lx_nil ?_
 repeat (first | refine ex_then ?_ | refine ex_block ?_ | refine wp_seq ?_ | refine wp_block ?_ | refine wp_skip ?_)
 try simp only [List.append_eq, List.cons_append, List.nil_append]
 refine sx_drawn [⟨0, 33, [], .val (.pointer (some ⟨gr, 4, none⟩)), true⟩,
   ⟨1, 34, [0], .val (num Q), true⟩,
   ⟨2, 35, [1], .val (num 0), false⟩,
   ⟨3, 36, [1, 2], .val (.bool false), true⟩,
   ⟨4, 37, [3], .val (.bool false), true⟩,
   ⟨5, 38, [4], .val (grp P Q G H), true⟩,
   ⟨6, 39, [4, 5], .val (num A), true⟩,
   ⟨7, 40, [4, 5, 6], .val (.bool true), false⟩,
   ⟨8, 41, [4, 7], .val (.bool false), true⟩,
   ⟨9, 42, [4, 8], .val (.bool false), true⟩] 0 F HM (by kernel_rfl) (by rfl) (by rfl) ?_ ?_ ?_ ?_ ?_ ?_ ?_
 ·kernel_rfl
 ·exact of_decide_eq_true (by kernel_rfl)
 ·(repeat refine all_cons ⟨_, by rfl, by rfl⟩ ?_); exact all_nil
 ·kernel_rfl
 ·(repeat (refine all_cons ?_ ?_; rotate_left)); exact all_nil
  ·exact coreS _ _ _ _ _ _ _ (by rfl) (by rfl) (wants_none) (fun ρ w kn hs => o_fieldG1 (kn _ _ (F.old (by rfl) rfl)))
  ·exact coreS _ _ _ _ _ _ _ (by rfl) (by rfl) (wants_none) (fun ρ w kn hs => o_loadG1 (kn _ _ (kc 0 33)) (hs.get 2 rfl))
  ·exact core_pureAs _ (by rfl)
  ·exact coreS _ _ _ _ _ _ _ (by rfl) (by rfl) (wants_none) (fun ρ w kn hs => o_eqlN hQ (show 0 < 2 ^ 256 by decide) hq (kn _ _ (kc 1 34)) (kn _ _ (kc 2 35)))
  ·exact coreS _ _ _ _ _ _ _ (by rfl) (by rfl) (wants_none) (fun ρ w kn hs => o_move (kn _ _ (kc 3 36)))
  ·exact coreS _ _ _ _ _ _ _ (by rfl) (by rfl) (wc 4 37 4 (kc 4 37)) (fun ρ w kn hs => o_loadG (kn _ _ (F.old (by rfl) rfl)) (hs.get 2 rfl))
  ·exact coreS _ _ _ _ _ _ _ (by rfl) (by rfl) (wc 4 37 4 (kc 4 37)) (fun ρ w kn hs => o_loadN (kn _ _ (F.old (by rfl) rfl)) (hs.get 1 rfl))
  ·exact core_pureAs _ (by rfl)
  ·exact coreS _ _ _ _ _ _ _ (by rfl) (by rfl) (wc 4 37 4 (kc 4 37)) (fun ρ w kn hs => o_not (b := true) (r := false) (kn _ _ (kc 7 40)) rfl)
  ·exact coreS _ _ _ _ _ _ _ (by rfl) (by rfl) (wants_none) (fun ρ w kn hs => o_pick (b := false) (r := .bool false) (kn _ _ (kc 4 37)) (kn _ _ (known_const _)) (kn _ _ (kc 8 41)) rfl)
 ·(repeat (refine all_cons ?_ ?_; rotate_left)); exact all_nil
  ·exact sA
  ·exact sA
  ·exact fun _ => coreG_call _ 22 _ _ [.const (.int .u64 0)] _ _ _ _ _ _ _ (by rfl) Try.func22 (by kernel_rfl) (by rfl) (by rfl) (wants_none) (.cons (known_const _) .nil) ((fun w => of8_any 0 (by decide) w))
  ·exact sA
  ·exact sA
  ·exact sA
  ·exact sA
  ·exact fun _ => coreG_call _ 20 _ _ [.tmp 38, .tmp 39] _ _ _ _ _ _ _ (by rfl) Try.func20 (by kernel_rfl) (by rfl) (by rfl) (wc 4 37 4 (kc 4 37)) (.cons (kc 5 38) (.cons (kc 6 39) .nil)) (i1)
  ·exact sA
  ·exact sA
 intro gs rs a w hgs hrs F HM
 obtain rfl := nl0 rs hrs
 clear hrs
 obtain rfl := nl0 gs hgs
 clear hgs
 refine sx_done (by kernel_rfl) ?_ _
 repeat (first | refine ex_then ?_ | refine ex_block ?_ | refine wp_seq ?_ | refine wp_block ?_ | refine wp_skip ?_)
 refine wp_cond_false (F.ev rfl) ?_
 repeat (first | refine ex_then ?_ | refine ex_block ?_ | refine wp_seq ?_ | refine wp_block ?_ | refine wp_skip ?_)
 refine wp_region_lit ?_
 refine lx_value (v := .pointer (some ⟨gb, 4, none⟩)) F (wanted_none rfl _) rfl (by rfl) (o_idxA1 (F.ev rfl) rfl) fun a F => ?_
 refine lx_value (v := .pointer (some ⟨gb, 4, none⟩)) F (wanted_none rfl _) rfl (by rfl) (o_idxW0 (F.ev rfl) rfl) fun a F => ?_
 refine lx_value (v := .int .u64 (wd Y 0 : Nat)) F (wanted_none rfl _) rfl (by rfl) (o_loadW (F.ev rfl) (HM.get 0 rfl) rfl) fun a F => ?_
 refine lx_value (v := .int .u64 ((wd Y 0 % 4294967296 : Nat) : Int)) F (wanted_none rfl _) rfl (by rfl) (o_rem (wd_lt Y 0) (F.ev rfl) rfl) fun a F => ?_
 refine lx_call F (wanted_none rfl _) rfl (by rfl) (run_callF Try.func22 (by kernel_rfl) (by rfl) (.cons (F.ev rfl) .nil) _) (ck _) fun a w z F => ?_
 replace HM := HM.on z
 clear z
 refine lx_new F HM (wanted_none rfl _) rfl (by rfl) (o_allocN) fun a w gk F HM => ?_
 refine lx_store F HM (wanted_none rfl _) rfl (k := 0) rfl (o_storeN (F.ev rfl) (F.ev rfl) (HM.get 0 rfl)) (M2 := [(gk, 24, ncs k), (gb, 42, acs N Y), (ga, 24, ncs A), (gr, 35, gcs P Q G H)]) rfl fun w HM => ?_
 refine lx_nil ?_
 repeat (first | refine ex_then ?_ | refine ex_block ?_ | refine wp_seq ?_ | refine wp_block ?_ | refine wp_skip ?_)
 refine wp_region_lit ?_
 refine lx_value (v := .pointer (some ⟨gb, 0, none⟩)) F (wanted_none rfl _) rfl (by rfl) (o_idxA0 (F.ev rfl) rfl) fun a F => ?_
 refine lx_value (v := num N) F (wanted_none rfl _) rfl (by rfl) (o_loadA0 (F.ev rfl) (HM.get 1 rfl)) fun a F => ?_
 refine lx_value (v := .pointer (some ⟨gr, 4, none⟩)) F (wanted_none rfl _) rfl (by rfl) (o_fieldG1 (F.ev rfl)) fun a F => ?_
 refine lx_value (v := num Q) F (wanted_none rfl _) rfl (by rfl) (o_loadG1 (F.ev rfl) (HM.get 3 rfl)) fun a F => ?_
 refine lx_call F (wanted_none rfl _) rfl (by rfl) (run_callF Try.func24 (by kernel_rfl) (by rfl) (.cons (F.ev rfl) (.cons (F.ev rfl) .nil)) _) (cd _) fun a w z F => ?_
 replace HM := HM.on z
 clear z
 refine lx_value (v := .tuple #[num D, num r, .int .i64 0]) F (wanted_none rfl _) rfl (by rfl) (o_move (F.ev rfl)) fun a F => ?_
 refine lx_value (v := num D) F (wanted_none rfl _) rfl (by rfl) (o_extract (F.ev rfl) rfl) fun a F => ?_
 refine lx_value (v := num r) F (wanted_none rfl _) rfl (by rfl) (o_extract (F.ev rfl) rfl) fun a F => ?_
 refine lx_value (v := .int .i64 0) F (wanted_none rfl _) rfl (by rfl) (o_extract (F.ev rfl) rfl) fun a F => ?_
 refine lx_new F HM (wanted_none rfl _) rfl (by rfl) (o_allocN) fun a w gd F HM => ?_
 refine lx_new F HM (wanted_none rfl _) rfl (by rfl) (o_allocN) fun a w gs F HM => ?_
 refine lx_store F HM (wanted_none rfl _) rfl (k := 1) rfl (o_storeN (F.ev rfl) (F.ev rfl) (HM.get 1 rfl)) (M2 := [(gs, 24, ncs 0), (gd, 24, ncs D), (gk, 24, ncs k), (gb, 42, acs N Y), (ga, 24, ncs A), (gr, 35, gcs P Q G H)]) rfl fun w HM => ?_
 refine lx_store F HM (wanted_none rfl _) rfl (k := 0) rfl (o_storeN (F.ev rfl) (F.ev rfl) (HM.get 0 rfl)) (M2 := [(gs, 24, ncs r), (gd, 24, ncs D), (gk, 24, ncs k), (gb, 42, acs N Y), (ga, 24, ncs A), (gr, 35, gcs P Q G H)]) rfl fun w HM => ?_
 refine lx_value (v := .int .i64 0) F (wanted_none rfl _) rfl (by rfl) (o_assign (F.ev rfl)) fun a F => ?_
 refine lx_nil ?_
 repeat (first | refine ex_then ?_ | refine ex_block ?_ | refine wp_seq ?_ | refine wp_block ?_ | refine wp_skip ?_)
 refine wp_region_lit ?_
 refine lx_value (v := grp P Q G H) F (wanted_none rfl _) rfl (by rfl) (o_loadG (F.ev rfl) (HM.get 5 rfl)) fun a F => ?_
 refine lx_value (v := num A) F (wanted_none rfl _) rfl (by rfl) (o_loadN (F.ev rfl) (HM.get 4 rfl)) fun a F => ?_
 refine lx_value (v := .pointer (some ⟨gb, 0, none⟩)) F (wanted_none rfl _) rfl (by rfl) (o_idxA0 (F.ev rfl) rfl) fun a F => ?_
 refine lx_value (v := num N) F (wanted_none rfl _) rfl (by rfl) (o_loadA0 (F.ev rfl) (HM.get 3 rfl)) fun a F => ?_
 refine lx_call F (wanted_none rfl _) rfl (by rfl) (run_callF Try.func16 (by kernel_rfl) (by rfl) (.cons (F.ev rfl) (.cons (F.ev rfl) (.cons (F.ev rfl) .nil))) _) (c1 _) fun a w z F => ?_
 replace HM := HM.on z
 clear z
 refine lx_value (v := .tuple #[num x, .int .i64 0]) F (wanted_none rfl _) rfl (by rfl) (o_move (F.ev rfl)) fun a F => ?_
 refine lx_value (v := num x) F (wanted_none rfl _) rfl (by rfl) (o_extract (F.ev rfl) rfl) fun a F => ?_
 refine lx_value (v := .int .i64 0) F (wanted_none rfl _) rfl (by rfl) (o_extract (F.ev rfl) rfl) fun a F => ?_
 refine lx_new F HM (wanted_none rfl _) rfl (by rfl) (o_allocN) fun a w gx F HM => ?_
 refine lx_store F HM (wanted_none rfl _) rfl (k := 0) rfl (o_storeN (F.ev rfl) (F.ev rfl) (HM.get 0 rfl)) (M2 := [(gx, 24, ncs x), (gs, 24, ncs r), (gd, 24, ncs D), (gk, 24, ncs k), (gb, 42, acs N Y), (ga, 24, ncs A), (gr, 35, gcs P Q G H)]) rfl fun w HM => ?_
 refine lx_value (v := .int .i64 0) F (wanted_none rfl _) rfl (by rfl) (o_assign (F.ev rfl)) fun a F => ?_
 refine lx_nil ?_
 repeat (first | refine ex_then ?_ | refine ex_block ?_ | refine wp_seq ?_ | refine wp_block ?_ | refine wp_skip ?_)
 refine wp_region_lit ?_
 refine lx_value (v := grp P Q G H) F (wanted_none rfl _) rfl (by rfl) (o_loadG (F.ev rfl) (HM.get 6 rfl)) fun a F => ?_
 refine lx_value (v := num A) F (wanted_none rfl _) rfl (by rfl) (o_loadN (F.ev rfl) (HM.get 5 rfl)) fun a F => ?_
 refine lx_value (v := num r) F (wanted_none rfl _) rfl (by rfl) (o_loadN (F.ev rfl) (HM.get 1 rfl)) fun a F => ?_
 refine lx_call F (wanted_none rfl _) rfl (by rfl) (run_callF Try.func16 (by kernel_rfl) (by rfl) (.cons (F.ev rfl) (.cons (F.ev rfl) (.cons (F.ev rfl) .nil))) _) (c2 _) fun a w z F => ?_
 replace HM := HM.on z
 clear z
 refine lx_value (v := .tuple #[num x, .int .i64 0]) F (wanted_none rfl _) rfl (by rfl) (o_move (F.ev rfl)) fun a F => ?_
 refine lx_value (v := num x) F (wanted_none rfl _) rfl (by rfl) (o_extract (F.ev rfl) rfl) fun a F => ?_
 refine lx_value (v := .int .i64 0) F (wanted_none rfl _) rfl (by rfl) (o_extract (F.ev rfl) rfl) fun a F => ?_
 refine lx_new F HM (wanted_none rfl _) rfl (by rfl) (o_allocN) fun a w gy F HM => ?_
 refine lx_store F HM (wanted_none rfl _) rfl (k := 0) rfl (o_storeN (F.ev rfl) (F.ev rfl) (HM.get 0 rfl)) (M2 := [(gy, 24, ncs x), (gx, 24, ncs x), (gs, 24, ncs r), (gd, 24, ncs D), (gk, 24, ncs k), (gb, 42, acs N Y), (ga, 24, ncs A), (gr, 35, gcs P Q G H)]) rfl fun w HM => ?_
 refine lx_value (v := .int .i64 0) F (wanted_none rfl _) rfl (by rfl) (o_assign (F.ev rfl)) fun a F => ?_
 refine lx_nil ?_
 repeat (first | refine ex_then ?_ | refine ex_block ?_ | refine wp_seq ?_ | refine wp_block ?_ | refine wp_skip ?_)
 refine wp_region_lit ?_
 refine lx_value (v := grp P Q G H) F (wanted_none rfl _) rfl (by rfl) (o_loadG (F.ev rfl) (HM.get 7 rfl)) fun a F => ?_
 refine lx_value (v := num x) F (wanted_none rfl _) rfl (by rfl) (o_loadN (F.ev rfl) (HM.get 1 rfl)) fun a F => ?_
 refine lx_value (v := num k) F (wanted_none rfl _) rfl (by rfl) (o_loadN (F.ev rfl) (HM.get 4 rfl)) fun a F => ?_
 refine lx_call F (wanted_none rfl _) rfl (by rfl) (run_callF Try.func16 (by kernel_rfl) (by rfl) (.cons (F.ev rfl) (.cons (F.ev rfl) (.cons (F.ev rfl) .nil))) _) (c3 _) fun a w z F => ?_
 replace HM := HM.on z
 clear z
 refine lx_value (v := .tuple #[num z, .int .i64 0]) F (wanted_none rfl _) rfl (by rfl) (o_move (F.ev rfl)) fun a F => ?_
 refine lx_value (v := num z) F (wanted_none rfl _) rfl (by rfl) (o_extract (F.ev rfl) rfl) fun a F => ?_
 refine lx_value (v := .int .i64 0) F (wanted_none rfl _) rfl (by rfl) (o_extract (F.ev rfl) rfl) fun a F => ?_
 refine lx_new F HM (wanted_none rfl _) rfl (by rfl) (o_allocN) fun a w gz F HM => ?_
 refine lx_store F HM (wanted_none rfl _) rfl (k := 0) rfl (o_storeN (F.ev rfl) (F.ev rfl) (HM.get 0 rfl)) (M2 := [(gz, 24, ncs z), (gy, 24, ncs x), (gx, 24, ncs x), (gs, 24, ncs r), (gd, 24, ncs D), (gk, 24, ncs k), (gb, 42, acs N Y), (ga, 24, ncs A), (gr, 35, gcs P Q G H)]) rfl fun w HM => ?_
 refine lx_value (v := .int .i64 0) F (wanted_none rfl _) rfl (by rfl) (o_assign (F.ev rfl)) fun a F => ?_
 refine lx_nil ?_
 repeat (first | refine ex_then ?_ | refine ex_block ?_ | refine wp_seq ?_ | refine wp_block ?_ | refine wp_skip ?_)
 refine wp_region_lit ?_
 refine lx_value (v := .pointer (some ⟨gb, 0, none⟩)) F (wanted_none rfl _) rfl (by rfl) (o_idxA0 (F.ev rfl) rfl) fun a F => ?_
 refine lx_value (v := num N) F (wanted_none rfl _) rfl (by rfl) (o_loadA0 (F.ev rfl) (HM.get 6 rfl)) fun a F => ?_
 refine lx_value (v := num k) F (wanted_none rfl _) rfl (by rfl) (o_loadN (F.ev rfl) (HM.get 5 rfl)) fun a F => ?_
 refine lx_call F (wanted_none rfl _) rfl (by rfl) (run_callF Try.func25 (by kernel_rfl) (by rfl) (.cons (F.ev rfl) (.cons (F.ev rfl) .nil)) _) (cm _) fun a w z F => ?_
 replace HM := HM.on z
 clear z
 refine lx_value (v := .tuple #[num Lo, num Hi]) F (wanted_none rfl _) rfl (by rfl) (o_move (F.ev rfl)) fun a F => ?_
 refine lx_value (v := num Lo) F (wanted_none rfl _) rfl (by rfl) (o_extract (F.ev rfl) rfl) fun a F => ?_
 refine lx_value (v := num Hi) F (wanted_none rfl _) rfl (by rfl) (o_extract (F.ev rfl) rfl) fun a F => ?_
 refine lx_new F HM (wanted_none rfl _) rfl (by rfl) (o_allocN) fun a w gl F HM => ?_
 refine lx_new F HM (wanted_none rfl _) rfl (by rfl) (o_allocN) fun a w gh F HM => ?_
 refine lx_store F HM (wanted_none rfl _) rfl (k := 1) rfl (o_storeN (F.ev rfl) (F.ev rfl) (HM.get 1 rfl)) (M2 := [(gh, 24, ncs 0), (gl, 24, ncs Lo), (gz, 24, ncs z), (gy, 24, ncs x), (gx, 24, ncs x), (gs, 24, ncs r), (gd, 24, ncs D), (gk, 24, ncs k), (gb, 42, acs N Y), (ga, 24, ncs A), (gr, 35, gcs P Q G H)]) rfl fun w HM => ?_
 refine lx_store F HM (wanted_none rfl _) rfl (k := 0) rfl (o_storeN (F.ev rfl) (F.ev rfl) (HM.get 0 rfl)) (M2 := [(gh, 24, ncs Hi), (gl, 24, ncs Lo), (gz, 24, ncs z), (gy, 24, ncs x), (gx, 24, ncs x), (gs, 24, ncs r), (gd, 24, ncs D), (gk, 24, ncs k), (gb, 42, acs N Y), (ga, 24, ncs A), (gr, 35, gcs P Q G H)]) rfl fun w HM => ?_
 refine lx_nil ?_
 repeat (first | refine ex_then ?_ | refine ex_block ?_ | refine wp_seq ?_ | refine wp_block ?_ | refine wp_skip ?_)
 refine wp_region_lit ?_
 refine lx_value (v := num Lo) F (wanted_none rfl _) rfl (by rfl) (o_loadN (F.ev rfl) (HM.get 1 rfl)) fun a F => ?_
 refine lx_value (v := num Hi) F (wanted_none rfl _) rfl (by rfl) (o_loadN (F.ev rfl) (HM.get 0 rfl)) fun a F => ?_
 refine lx_value (v := .pointer (some ⟨gr, 4, none⟩)) F (wanted_none rfl _) rfl (by rfl) (o_fieldG1 (F.ev rfl)) fun a F => ?_
 refine lx_value (v := num Q) F (wanted_none rfl _) rfl (by rfl) (o_loadG1 (F.ev rfl) (HM.get 10 rfl)) fun a F => ?_
 refine lx_call F (wanted_none rfl _) rfl (by rfl) (run_callF Try.func26 (by kernel_rfl) (by rfl) (.cons (F.ev rfl) (.cons (F.ev rfl) (.cons (F.ev rfl) .nil))) _) (cw _) fun a w z F => ?_
 replace HM := HM.on z
 clear z
 refine lx_value (v := .tuple #[num ee, .int .i64 0]) F (wanted_none rfl _) rfl (by rfl) (o_move (F.ev rfl)) fun a F => ?_
 refine lx_value (v := num ee) F (wanted_none rfl _) rfl (by rfl) (o_extract (F.ev rfl) rfl) fun a F => ?_
 refine lx_value (v := .int .i64 0) F (wanted_none rfl _) rfl (by rfl) (o_extract (F.ev rfl) rfl) fun a F => ?_
 refine lx_new F HM (wanted_none rfl _) rfl (by rfl) (o_allocN) fun a w ge F HM => ?_
 refine lx_store F HM (wanted_none rfl _) rfl (k := 0) rfl (o_storeN (F.ev rfl) (F.ev rfl) (HM.get 0 rfl)) (M2 := [(ge, 24, ncs ee), (gh, 24, ncs Hi), (gl, 24, ncs Lo), (gz, 24, ncs z), (gy, 24, ncs x), (gx, 24, ncs x), (gs, 24, ncs r), (gd, 24, ncs D), (gk, 24, ncs k), (gb, 42, acs N Y), (ga, 24, ncs A), (gr, 35, gcs P Q G H)]) rfl fun w HM => ?_
 refine lx_value (v := .int .i64 0) F (wanted_none rfl _) rfl (by rfl) (o_assign (F.ev rfl)) fun a F => ?_
 refine lx_nil ?_
 repeat (first | refine ex_then ?_ | refine ex_block ?_ | refine wp_seq ?_ | refine wp_block ?_ | refine wp_skip ?_)
 refine wp_region_lit ?_
 refine lx_value (v := grp P Q G H) F (wanted_none rfl _) rfl (by rfl) (o_loadG (F.ev rfl) (HM.get 11 rfl)) fun a F => ?_
 refine lx_value (v := num A) F (wanted_none rfl _) rfl (by rfl) (o_loadN (F.ev rfl) (HM.get 10 rfl)) fun a F => ?_
 refine lx_value (v := num ee) F (wanted_none rfl _) rfl (by rfl) (o_loadN (F.ev rfl) (HM.get 0 rfl)) fun a F => ?_
 refine lx_call F (wanted_none rfl _) rfl (by rfl) (run_callF Try.func16 (by kernel_rfl) (by rfl) (.cons (F.ev rfl) (.cons (F.ev rfl) (.cons (F.ev rfl) .nil))) _) (c4 _) fun a w z F => ?_
 replace HM := HM.on z
 clear z
 refine lx_value (v := .tuple #[num z, .int .i64 0]) F (wanted_none rfl _) rfl (by rfl) (o_move (F.ev rfl)) fun a F => ?_
 refine lx_value (v := num z) F (wanted_none rfl _) rfl (by rfl) (o_extract (F.ev rfl) rfl) fun a F => ?_
 refine lx_value (v := .int .i64 0) F (wanted_none rfl _) rfl (by rfl) (o_extract (F.ev rfl) rfl) fun a F => ?_
 refine lx_new F HM (wanted_none rfl _) rfl (by rfl) (o_allocN) fun a w gw F HM => ?_
 refine lx_store F HM (wanted_none rfl _) rfl (k := 0) rfl (o_storeN (F.ev rfl) (F.ev rfl) (HM.get 0 rfl)) (M2 := [(gw, 24, ncs z), (ge, 24, ncs ee), (gh, 24, ncs Hi), (gl, 24, ncs Lo), (gz, 24, ncs z), (gy, 24, ncs x), (gx, 24, ncs x), (gs, 24, ncs r), (gd, 24, ncs D), (gk, 24, ncs k), (gb, 42, acs N Y), (ga, 24, ncs A), (gr, 35, gcs P Q G H)]) rfl fun w HM => ?_
 refine lx_value (v := .int .i64 0) F (wanted_none rfl _) rfl (by rfl) (o_assign (F.ev rfl)) fun a F => ?_
 refine lx_nil ?_
 repeat (first | refine ex_then ?_ | refine ex_block ?_ | refine wp_seq ?_ | refine wp_block ?_ | refine wp_skip ?_)
 refine wp_region_lit ?_
 refine lx_value (v := grp P Q G H) F (wanted_none rfl _) rfl (by rfl) (o_loadG (F.ev rfl) (HM.get 12 rfl)) fun a F => ?_
 refine lx_value (v := num A) F (wanted_none rfl _) rfl (by rfl) (o_loadN (F.ev rfl) (HM.get 11 rfl)) fun a F => ?_
 refine lx_value (v := num k) F (wanted_none rfl _) rfl (by rfl) (o_loadN (F.ev rfl) (HM.get 9 rfl)) fun a F => ?_
 refine lx_call F (wanted_none rfl _) rfl (by rfl) (run_callF Try.func16 (by kernel_rfl) (by rfl) (.cons (F.ev rfl) (.cons (F.ev rfl) (.cons (F.ev rfl) .nil))) _) (c5 _) fun a w z F => ?_
 replace HM := HM.on z
 clear z
 refine lx_value (v := .tuple #[num u, .int .i64 0]) F (wanted_none rfl _) rfl (by rfl) (o_move (F.ev rfl)) fun a F => ?_
 refine lx_value (v := num u) F (wanted_none rfl _) rfl (by rfl) (o_extract (F.ev rfl) rfl) fun a F => ?_
 refine lx_value (v := .int .i64 0) F (wanted_none rfl _) rfl (by rfl) (o_extract (F.ev rfl) rfl) fun a F => ?_
 refine lx_new F HM (wanted_none rfl _) rfl (by rfl) (o_allocN) fun a w gu F HM => ?_
 refine lx_store F HM (wanted_none rfl _) rfl (k := 0) rfl (o_storeN (F.ev rfl) (F.ev rfl) (HM.get 0 rfl)) (M2 := [(gu, 24, ncs u), (gw, 24, ncs z), (ge, 24, ncs ee), (gh, 24, ncs Hi), (gl, 24, ncs Lo), (gz, 24, ncs z), (gy, 24, ncs x), (gx, 24, ncs x), (gs, 24, ncs r), (gd, 24, ncs D), (gk, 24, ncs k), (gb, 42, acs N Y), (ga, 24, ncs A), (gr, 35, gcs P Q G H)]) rfl fun w HM => ?_
 refine lx_value (v := .int .i64 0) F (wanted_none rfl _) rfl (by rfl) (o_assign (F.ev rfl)) fun a F => ?_
 refine lx_nil ?_
 repeat (first | refine ex_then ?_ | refine ex_block ?_ | refine wp_seq ?_ | refine wp_block ?_ | refine wp_skip ?_)
 refine wp_region_lit ?_
 refine lx_value (v := grp P Q G H) F (wanted_none rfl _) rfl (by rfl) (o_loadG (F.ev rfl) (HM.get 13 rfl)) fun a F => ?_
 refine lx_value (v := num x) F (wanted_none rfl _) rfl (by rfl) (o_loadN (F.ev rfl) (HM.get 7 rfl)) fun a F => ?_
 refine lx_value (v := num u) F (wanted_none rfl _) rfl (by rfl) (o_loadN (F.ev rfl) (HM.get 0 rfl)) fun a F => ?_
 refine lx_call F (wanted_none rfl _) rfl (by rfl) (run_callF Try.func14 (by kernel_rfl) (by rfl) (.cons (F.ev rfl) (.cons (F.ev rfl) (.cons (F.ev rfl) .nil))) _) (c6 _) fun a w z F => ?_
 replace HM := HM.on z
 clear z
 refine lx_value (v := .tuple #[num m, .int .i64 0]) F (wanted_none rfl _) rfl (by rfl) (o_move (F.ev rfl)) fun a F => ?_
 refine lx_value (v := num m) F (wanted_none rfl _) rfl (by rfl) (o_extract (F.ev rfl) rfl) fun a F => ?_
 refine lx_value (v := .int .i64 0) F (wanted_none rfl _) rfl (by rfl) (o_extract (F.ev rfl) rfl) fun a F => ?_
 refine lx_new F HM (wanted_none rfl _) rfl (by rfl) (o_allocN) fun a w gm F HM => ?_
 refine lx_store F HM (wanted_none rfl _) rfl (k := 0) rfl (o_storeN (F.ev rfl) (F.ev rfl) (HM.get 0 rfl)) (M2 := [(gm, 24, ncs m), (gu, 24, ncs u), (gw, 24, ncs z), (ge, 24, ncs ee), (gh, 24, ncs Hi), (gl, 24, ncs Lo), (gz, 24, ncs z), (gy, 24, ncs x), (gx, 24, ncs x), (gs, 24, ncs r), (gd, 24, ncs D), (gk, 24, ncs k), (gb, 42, acs N Y), (ga, 24, ncs A), (gr, 35, gcs P Q G H)]) rfl fun w HM => ?_
 refine lx_value (v := .int .i64 0) F (wanted_none rfl _) rfl (by rfl) (o_assign (F.ev rfl)) fun a F => ?_
 refine lx_nil ?_
 repeat (first | refine ex_then ?_ | refine ex_block ?_ | refine wp_seq ?_ | refine wp_block ?_ | refine wp_skip ?_)
 refine wp_region_lit ?_
 refine lx_value (v := .pointer (some ⟨gb, 0, none⟩)) F (wanted_none rfl _) rfl (by rfl) (o_idxA0 (F.ev rfl) rfl) fun a F => ?_
 refine lx_value (v := num N) F (wanted_none rfl _) rfl (by rfl) (o_loadA0 (F.ev rfl) (HM.get 12 rfl)) fun a F => ?_
 refine lx_value (v := num k) F (wanted_none rfl _) rfl (by rfl) (o_loadN (F.ev rfl) (HM.get 11 rfl)) fun a F => ?_
 refine lx_call F (wanted_none rfl _) rfl (by rfl) (run_callF Try.func27 (by kernel_rfl) (by rfl) (.cons (F.ev rfl) (.cons (F.ev rfl) .nil)) _) (ca _) fun a w z F => ?_
 replace HM := HM.on z
 clear z
 refine lx_value (v := .tuple #[num S, .int .u64 (c : Nat)]) F (wanted_none rfl _) rfl (by rfl) (o_move (F.ev rfl)) fun a F => ?_
 refine lx_value (v := num S) F (wanted_none rfl _) rfl (by rfl) (o_extract (F.ev rfl) rfl) fun a F => ?_
 refine lx_value (v := .int .u64 (c : Nat)) F (wanted_none rfl _) rfl (by rfl) (o_extract (F.ev rfl) rfl) fun a F => ?_
 refine lx_new F HM (wanted_none rfl _) rfl (by rfl) (o_allocN) fun a w gt F HM => ?_
 refine lx_store F HM (wanted_none rfl _) rfl (k := 0) rfl (o_storeN (F.ev rfl) (F.ev rfl) (HM.get 0 rfl)) (M2 := [(gt, 24, ncs S), (gm, 24, ncs m), (gu, 24, ncs u), (gw, 24, ncs z), (ge, 24, ncs ee), (gh, 24, ncs Hi), (gl, 24, ncs Lo), (gz, 24, ncs z), (gy, 24, ncs x), (gx, 24, ncs x), (gs, 24, ncs r), (gd, 24, ncs D), (gk, 24, ncs k), (gb, 42, acs N Y), (ga, 24, ncs A), (gr, 35, gcs P Q G H)]) rfl fun w HM => ?_
 refine lx_value (v := .int .u64 (c : Nat)) F (wanted_none rfl _) rfl (by rfl) (o_assign (F.ev rfl)) fun a F => ?_
 refine lx_nil ?_
 repeat (first | refine ex_then ?_ | refine ex_block ?_ | refine wp_seq ?_ | refine wp_block ?_ | refine wp_skip ?_)
 try simp only [List.append_eq, List.cons_append, List.nil_append]
 refine sx_drawn [⟨0, 124, [], .val (num S), true⟩,
   ⟨1, 125, [0], .val (.int .u64 (c : Nat)), true⟩,
   ⟨3, 127, [1], .val (.pointer (some ⟨gr, 4, none⟩)), true⟩,
   ⟨4, 128, [2], .val (num Q), true⟩,
   ⟨9, 29, [], .cell 24 (ncs 0), false⟩,
   ⟨2, 126, [1, 3], .val (num c), false⟩,
   ⟨5, 129, [0, 3, 5], .val (.tuple #[num ff, .int .i64 0]), false⟩,
   ⟨6, 123, [6], .val (.tuple #[num ff, .int .i64 0]), true⟩,
   ⟨7, 130, [7], .val (num ff), true⟩,
   ⟨8, 131, [7, 8], .val (.int .i64 0), true⟩] 2 F HM (by kernel_rfl) (by rfl) (by rfl) ?_ ?_ ?_ ?_ ?_ ?_ ?_
 ·kernel_rfl
 ·exact of_decide_eq_true (by kernel_rfl)
 ·(repeat refine all_cons ⟨_, by rfl, by rfl⟩ ?_); exact all_nil
 ·kernel_rfl
 ·(repeat (refine all_cons ?_ ?_; rotate_left)); exact all_nil
  ·exact coreS _ _ _ _ _ _ _ (by rfl) (by rfl) (wants_none) (fun ρ w kn hs => o_loadN (kn _ _ (F.old (by rfl) rfl)) (hs.get 0 rfl))
  ·exact coreS _ _ _ _ _ _ _ (by rfl) (by rfl) (wants_none) (fun ρ w kn hs => o_move (kn _ _ (F.old (by rfl) rfl)))
  ·exact coreS _ _ _ _ _ _ _ (by rfl) (by rfl) (wants_none) (fun ρ w kn hs => o_fieldG1 (kn _ _ (F.old (by rfl) rfl)))
  ·exact coreS _ _ _ _ _ _ _ (by rfl) (by rfl) (wants_none) (fun ρ w kn hs => o_loadG1 (kn _ _ (kc 2 127)) (hs.get 15 rfl))
  ·exact core_pureAs _ (by rfl)
  ·exact core_pureAs _ (by rfl)
  ·exact core_pureAs _ (by rfl)
  ·exact coreS _ _ _ _ _ _ _ (by rfl) (by rfl) (wants_none) (fun ρ w kn hs => o_move (kn _ _ (kc 6 129)))
  ·exact coreS _ _ _ _ _ _ _ (by rfl) (by rfl) (wants_none) (fun ρ w kn hs => o_extract (kn _ _ (kc 7 123)) rfl)
  ·exact coreS _ _ _ _ _ _ _ (by rfl) (by rfl) (wants_none) (fun ρ w kn hs => o_extract (kn _ _ (kc 7 123)) rfl)
 ·(repeat (refine all_cons ?_ ?_; rotate_left)); exact all_nil
  ·exact sA
  ·exact sA
  ·exact sA
  ·exact sA
  ·exact fun _ => core_new _ _ _ _ _ _ _ _ (by rfl) (by rfl) (Nat.le_refl _) (fun ρ w => o_allocN)
  ·exact fun _ => coreG_call _ 22 _ _ [.tmp 125] _ _ _ _ _ _ _ (by rfl) Try.func22 (by kernel_rfl) (by rfl) (by rfl) (wants_none) (.cons (kc 1 125) .nil) (co)
  ·exact fun _ => coreG_call _ 26 _ _ [.tmp 124, .tmp 126, .tmp 128] _ _ _ _ _ _ _ (by rfl) Try.func26 (by kernel_rfl) (by rfl) (by rfl) (wants_none) (.cons (kc 0 124) (.cons (kc 5 126) (.cons (kc 3 128) .nil))) (cw2)
  ·exact sA
  ·exact sA
  ·exact sA
 intro gs rs a w hgs hrs F HM
 obtain rfl := nl0 rs hrs
 clear hrs
 obtain ⟨gf, rfl⟩ := nl1 gs hgs
 clear hgs
 refine sx_store (i := 10) HM (by kernel_rfl) (by rfl) rfl rfl (k := 0) rfl (o_storeN (F.ev rfl) (F.ev rfl) (HM.get 0 rfl)) (M2 := [(gf, 24, ncs ff), (gt, 24, ncs S), (gm, 24, ncs m), (gu, 24, ncs u), (gw, 24, ncs z), (ge, 24, ncs ee), (gh, 24, ncs Hi), (gl, 24, ncs Lo), (gz, 24, ncs z), (gy, 24, ncs x), (gx, 24, ncs x), (gs, 24, ncs r), (gd, 24, ncs D), (gk, 24, ncs k), (gb, 42, acs N Y), (ga, 24, ncs A), (gr, 35, gcs P Q G H)]) rfl (fun _ h => h.tail (A := [(gf, 24, ncs ff)])) fun w HM => ?_
 refine sx_assign (i := 11) (d := 30) (x := .tmp 131) (v := .int .i64 0) F (HM.tail (A := [(gf, 24, ncs ff)])) (by kernel_rfl) (by rfl) (by rfl) (F.ev rfl) fun a F => ?_
 refine sx_done (by kernel_rfl) ?_ _
 repeat (first | refine ex_then ?_ | refine ex_block ?_ | refine wp_seq ?_ | refine wp_block ?_ | refine wp_skip ?_)
 refine wp_region_lit ?_
 refine lx_value (v := grp P Q G H) F (wanted_none rfl _) rfl (by rfl) (o_loadG (F.ev rfl) (HM.get 16 rfl)) fun a F => ?_
 refine lx_value (v := num A) F (wanted_none rfl _) rfl (by rfl) (o_loadN (F.ev rfl) (HM.get 15 rfl)) fun a F => ?_
 refine lx_value (v := num ff) F (wanted_none rfl _) rfl (by rfl) (o_loadN (F.ev rfl) (HM.get 0 rfl)) fun a F => ?_
 refine lx_call F (wanted_none rfl _) rfl (by rfl) (run_callF Try.func16 (by kernel_rfl) (by rfl) (.cons (F.ev rfl) (.cons (F.ev rfl) (.cons (F.ev rfl) .nil))) _) (c7 _) fun a w z F => ?_
 replace HM := HM.on z
 clear z
 refine lx_value (v := .tuple #[num m, .int .i64 0]) F (wanted_none rfl _) rfl (by rfl) (o_move (F.ev rfl)) fun a F => ?_
 refine lx_value (v := num m) F (wanted_none rfl _) rfl (by rfl) (o_extract (F.ev rfl) rfl) fun a F => ?_
 refine lx_value (v := .int .i64 0) F (wanted_none rfl _) rfl (by rfl) (o_extract (F.ev rfl) rfl) fun a F => ?_
 refine lx_new F HM (wanted_none rfl _) rfl (by rfl) (o_allocN) fun a w gv F HM => ?_
 refine lx_store F HM (wanted_none rfl _) rfl (k := 0) rfl (o_storeN (F.ev rfl) (F.ev rfl) (HM.get 0 rfl)) (M2 := [(gv, 24, ncs m), (gf, 24, ncs ff), (gt, 24, ncs S), (gm, 24, ncs m), (gu, 24, ncs u), (gw, 24, ncs z), (ge, 24, ncs ee), (gh, 24, ncs Hi), (gl, 24, ncs Lo), (gz, 24, ncs z), (gy, 24, ncs x), (gx, 24, ncs x), (gs, 24, ncs r), (gd, 24, ncs D), (gk, 24, ncs k), (gb, 42, acs N Y), (ga, 24, ncs A), (gr, 35, gcs P Q G H)]) rfl fun w HM => ?_
 refine lx_value (v := .int .i64 0) F (wanted_none rfl _) rfl (by rfl) (o_assign (F.ev rfl)) fun a F => ?_
 refine lx_nil ?_
 repeat (first | refine ex_then ?_ | refine ex_block ?_ | refine wp_seq ?_ | refine wp_block ?_ | refine wp_skip ?_)
 refine wp_region_lit ?_
 refine lx_call F (wanted_none rfl _) rfl (by rfl) (run_callF Try.func23 (by kernel_rfl) (by rfl) .nil _) (alive8_any _) fun a w z F => ?_
 replace HM := HM.on z
 clear z
 refine lx_value (v := .bool true) F (wanted_none rfl _) rfl (by rfl) (o_move (F.ev rfl)) fun a F => ?_
 refine lx_value (v := .int .i64 0) F (F.want (t := 140) (c := true) rfl rfl rfl (by rfl) rfl) rfl (by rfl) (o_move (F.ev rfl)) fun a F => ?_
 refine lx_value (v := .bool true) F (F.want (t := 140) (c := true) rfl rfl rfl (by rfl) rfl) rfl (by rfl) (o_bin (u := .int .i64 0) (v := .int .i64 0) (fun ρ hx hy => by simp only [execOp, hx, hy]; simp [go_sem]) (F.ev rfl) rfl) fun a F => ?_
 refine lx_value (v := .bool true) F (wanted_none rfl _) rfl (by rfl) (o_pick (b := true) (r := .bool true) (F.ev rfl) (F.ev rfl) rfl rfl) fun a F => ?_
 refine lx_value (v := .bool true) F (wanted_none rfl _) rfl (by rfl) (o_move (F.ev rfl)) fun a F => ?_
 refine lx_value (v := .int .i64 0) F (F.want (t := 144) (c := true) rfl rfl rfl (by rfl) rfl) rfl (by rfl) (o_move (F.ev rfl)) fun a F => ?_
 refine lx_value (v := .bool true) F (F.want (t := 144) (c := true) rfl rfl rfl (by rfl) rfl) rfl (by rfl) (o_bin (u := .int .i64 0) (v := .int .i64 0) (fun ρ hx hy => by simp only [execOp, hx, hy]; simp [go_sem]) (F.ev rfl) rfl) fun a F => ?_
 refine lx_value (v := .bool true) F (wanted_none rfl _) rfl (by rfl) (o_pick (b := true) (r := .bool true) (F.ev rfl) (F.ev rfl) rfl rfl) fun a F => ?_
 refine lx_value (v := .bool true) F (wanted_none rfl _) rfl (by rfl) (o_move (F.ev rfl)) fun a F => ?_
 refine lx_value (v := .int .i64 0) F (F.want (t := 148) (c := true) rfl rfl rfl (by rfl) rfl) rfl (by rfl) (o_move (F.ev rfl)) fun a F => ?_
 refine lx_value (v := .bool true) F (F.want (t := 148) (c := true) rfl rfl rfl (by rfl) rfl) rfl (by rfl) (o_bin (u := .int .i64 0) (v := .int .i64 0) (fun ρ hx hy => by simp only [execOp, hx, hy]; simp [go_sem]) (F.ev rfl) rfl) fun a F => ?_
 refine lx_value (v := .bool true) F (wanted_none rfl _) rfl (by rfl) (o_pick (b := true) (r := .bool true) (F.ev rfl) (F.ev rfl) rfl rfl) fun a F => ?_
 refine lx_value (v := .bool true) F (wanted_none rfl _) rfl (by rfl) (o_move (F.ev rfl)) fun a F => ?_
 refine lx_value (v := .int .i64 0) F (F.want (t := 152) (c := true) rfl rfl rfl (by rfl) rfl) rfl (by rfl) (o_move (F.ev rfl)) fun a F => ?_
 refine lx_value (v := .bool true) F (F.want (t := 152) (c := true) rfl rfl rfl (by rfl) rfl) rfl (by rfl) (o_bin (u := .int .i64 0) (v := .int .i64 0) (fun ρ hx hy => by simp only [execOp, hx, hy]; simp [go_sem]) (F.ev rfl) rfl) fun a F => ?_
 refine lx_value (v := .bool true) F (wanted_none rfl _) rfl (by rfl) (o_pick (b := true) (r := .bool true) (F.ev rfl) (F.ev rfl) rfl rfl) fun a F => ?_
 refine lx_value (v := .bool true) F (wanted_none rfl _) rfl (by rfl) (o_move (F.ev rfl)) fun a F => ?_
 refine lx_value (v := .int .i64 0) F (F.want (t := 156) (c := true) rfl rfl rfl (by rfl) rfl) rfl (by rfl) (o_move (F.ev rfl)) fun a F => ?_
 refine lx_value (v := .bool true) F (F.want (t := 156) (c := true) rfl rfl rfl (by rfl) rfl) rfl (by rfl) (o_bin (u := .int .i64 0) (v := .int .i64 0) (fun ρ hx hy => by simp only [execOp, hx, hy]; simp [go_sem]) (F.ev rfl) rfl) fun a F => ?_
 refine lx_value (v := .bool true) F (wanted_none rfl _) rfl (by rfl) (o_pick (b := true) (r := .bool true) (F.ev rfl) (F.ev rfl) rfl rfl) fun a F => ?_
 refine lx_value (v := .bool true) F (wanted_none rfl _) rfl (by rfl) (o_move (F.ev rfl)) fun a F => ?_
 refine lx_value (v := .int .i64 0) F (F.want (t := 160) (c := true) rfl rfl rfl (by rfl) rfl) rfl (by rfl) (o_move (F.ev rfl)) fun a F => ?_
 refine lx_value (v := .bool true) F (F.want (t := 160) (c := true) rfl rfl rfl (by rfl) rfl) rfl (by rfl) (o_bin (u := .int .i64 0) (v := .int .i64 0) (fun ρ hx hy => by simp only [execOp, hx, hy]; simp [go_sem]) (F.ev rfl) rfl) fun a F => ?_
 refine lx_value (v := .bool true) F (wanted_none rfl _) rfl (by rfl) (o_pick (b := true) (r := .bool true) (F.ev rfl) (F.ev rfl) rfl rfl) fun a F => ?_
 refine lx_value (v := .bool true) F (wanted_none rfl _) rfl (by rfl) (o_move (F.ev rfl)) fun a F => ?_
 refine lx_value (v := .int .i64 0) F (F.want (t := 164) (c := true) rfl rfl rfl (by rfl) rfl) rfl (by rfl) (o_move (F.ev rfl)) fun a F => ?_
 refine lx_value (v := .bool true) F (F.want (t := 164) (c := true) rfl rfl rfl (by rfl) rfl) rfl (by rfl) (o_bin (u := .int .i64 0) (v := .int .i64 0) (fun ρ hx hy => by simp only [execOp, hx, hy]; simp [go_sem]) (F.ev rfl) rfl) fun a F => ?_
 refine lx_value (v := .bool true) F (wanted_none rfl _) rfl (by rfl) (o_pick (b := true) (r := .bool true) (F.ev rfl) (F.ev rfl) rfl rfl) fun a F => ?_
 refine lx_value (v := .bool true) F (wanted_none rfl _) rfl (by rfl) (o_move (F.ev rfl)) fun a F => ?_
 refine lx_value (v := .int .i64 0) F (F.want (t := 168) (c := true) rfl rfl rfl (by rfl) rfl) rfl (by rfl) (o_move (F.ev rfl)) fun a F => ?_
 refine lx_value (v := .bool true) F (F.want (t := 168) (c := true) rfl rfl rfl (by rfl) rfl) rfl (by rfl) (o_bin (u := .int .i64 0) (v := .int .i64 0) (fun ρ hx hy => by simp only [execOp, hx, hy]; simp [go_sem]) (F.ev rfl) rfl) fun a F => ?_
 refine lx_value (v := .bool true) F (wanted_none rfl _) rfl (by rfl) (o_pick (b := true) (r := .bool true) (F.ev rfl) (F.ev rfl) rfl rfl) fun a F => ?_
 refine lx_value (v := .bool true) F (wanted_none rfl _) rfl (by rfl) (o_move (F.ev rfl)) fun a F => ?_
 refine lx_value (v := .int .i64 0) F (F.want (t := 172) (c := true) rfl rfl rfl (by rfl) rfl) rfl (by rfl) (o_move (F.ev rfl)) fun a F => ?_
 refine lx_value (v := .bool true) F (F.want (t := 172) (c := true) rfl rfl rfl (by rfl) rfl) rfl (by rfl) (o_bin (u := .int .i64 0) (v := .int .i64 0) (fun ρ hx hy => by simp only [execOp, hx, hy]; simp [go_sem]) (F.ev rfl) rfl) fun a F => ?_
 refine lx_value (v := .bool true) F (wanted_none rfl _) rfl (by rfl) (o_pick (b := true) (r := .bool true) (F.ev rfl) (F.ev rfl) rfl rfl) fun a F => ?_
 refine lx_value (v := .bool true) F (wanted_none rfl _) rfl (by rfl) (o_move (F.ev rfl)) fun a F => ?_
 refine lx_value (v := .int .i64 0) F (F.want (t := 176) (c := true) rfl rfl rfl (by rfl) rfl) rfl (by rfl) (o_move (F.ev rfl)) fun a F => ?_
 refine lx_value (v := .bool true) F (F.want (t := 176) (c := true) rfl rfl rfl (by rfl) rfl) rfl (by rfl) (o_bin (u := .int .i64 0) (v := .int .i64 0) (fun ρ hx hy => by simp only [execOp, hx, hy]; simp [go_sem]) (F.ev rfl) rfl) fun a F => ?_
 refine lx_value (v := .bool true) F (wanted_none rfl _) rfl (by rfl) (o_pick (b := true) (r := .bool true) (F.ev rfl) (F.ev rfl) rfl rfl) fun a F => ?_
 refine lx_value (v := .bool true) F (wanted_none rfl _) rfl (by rfl) (o_move (F.ev rfl)) fun a F => ?_
 refine lx_value (v := num x) F (F.want (t := 180) (c := true) rfl rfl rfl (by rfl) rfl) rfl (by rfl) (o_loadN (F.ev rfl) (HM.get 11 rfl)) fun a F => ?_
 refine lx_value (v := num x) F (F.want (t := 180) (c := true) rfl rfl rfl (by rfl) rfl) rfl (by rfl) (o_loadN (F.ev rfl) (HM.get 10 rfl)) fun a F => ?_
 refine lx_value (v := .bool true) F (F.want (t := 180) (c := true) rfl rfl rfl (by rfl) rfl) rfl (by rfl) (o_eqlS (F.ev rfl) (F.ev rfl)) fun a F => ?_
 refine lx_value (v := .bool true) F (wanted_none rfl _) rfl (by rfl) (o_pick (b := true) (r := .bool true) (F.ev rfl) (F.ev rfl) rfl rfl) fun a F => ?_
 refine lx_value (v := .bool true) F (wanted_none rfl _) rfl (by rfl) (o_move (F.ev rfl)) fun a F => ?_
 refine lx_value (v := num z) F (F.want (t := 185) (c := true) rfl rfl rfl (by rfl) rfl) rfl (by rfl) (o_loadN (F.ev rfl) (HM.get 9 rfl)) fun a F => ?_
 refine lx_value (v := num z) F (F.want (t := 185) (c := true) rfl rfl rfl (by rfl) rfl) rfl (by rfl) (o_loadN (F.ev rfl) (HM.get 5 rfl)) fun a F => ?_
 refine lx_value (v := .bool true) F (F.want (t := 185) (c := true) rfl rfl rfl (by rfl) rfl) rfl (by rfl) (o_eqlS (F.ev rfl) (F.ev rfl)) fun a F => ?_
 refine lx_value (v := .bool true) F (wanted_none rfl _) rfl (by rfl) (o_pick (b := true) (r := .bool true) (F.ev rfl) (F.ev rfl) rfl rfl) fun a F => ?_
 refine lx_value (v := .bool true) F (wanted_none rfl _) rfl (by rfl) (o_move (F.ev rfl)) fun a F => ?_
 refine lx_value (v := num m) F (F.want (t := 190) (c := true) rfl rfl rfl (by rfl) rfl) rfl (by rfl) (o_loadN (F.ev rfl) (HM.get 3 rfl)) fun a F => ?_
 refine lx_value (v := num m) F (F.want (t := 190) (c := true) rfl rfl rfl (by rfl) rfl) rfl (by rfl) (o_loadN (F.ev rfl) (HM.get 0 rfl)) fun a F => ?_
 refine lx_value (v := .bool true) F (F.want (t := 190) (c := true) rfl rfl rfl (by rfl) rfl) rfl (by rfl) (o_eqlS (F.ev rfl) (F.ev rfl)) fun a F => ?_
 refine lx_value (v := .bool true) F (wanted_none rfl _) rfl (by rfl) (o_pick (b := true) (r := .bool true) (F.ev rfl) (F.ev rfl) rfl rfl) fun a F => ?_
 refine lx_value (v := .bool true) F (wanted_none rfl _) rfl (by rfl) (o_assign (F.ev rfl)) fun a F => ?_
 refine lx_nil ?_
 repeat (first | refine ex_then ?_ | refine ex_block ?_ | refine wp_seq ?_ | refine wp_block ?_ | refine wp_skip ?_)
 refine wp_ret ?_
 repeat (first | refine ex_thenR ?_ | refine ex_blockR ?_)
 exact sx_ret F HM (res_tmp F rfl (s := 6) rfl)

theorem round_walk (P Q G H A N Y : Nat) (hP : P < 2 ^ 256) (hQ : Q < 2 ^ 256) (hA : A < 2 ^ 256) (hN : N < 2 ^ 256) (hY : Y < 2 ^ 256) (w : World) : Calls Try.prog 6 #[grp P Q G H, num A, arr2 N Y] w fun e w' => e = .returned (.bool true) ∧ Below w.heap.size w w' := by
 have I := fun A (hA : A < 2 ^ 256) b (h : inB P Q A = b) => (show ∀ w, Calls Try.prog 20 #[grp P Q G H, num A] w fun e w' => e = .returned (.bool b) ∧ Below w.heap.size w w' from fun w => h ▸ gin_any P Q G H A hP hQ hA w)
 by_cases hq : Q = 0
 ·exact round_0 P Q G H A N Y hQ (decide_eq_true hq) w
 ·rcases ha : inB P Q A with _ | _
  ·exact round_1 P Q G H A N Y hQ (decide_eq_false hq) (I A hA _ ha) w
  ·obtain ⟨⟨a0, aP⟩, aQ⟩ := inB_iff.mp ha
   have hQ0 : 0 < Q := Nat.pos_of_ne_zero hq
   have h1 : 1 < P := by omega
   have lt : ∀ n, n % P < P := fun n => Nat.mod_lt _ (by omega)
   have ltB : ∀ n, n % P < 2 ^ 256 := fun n => Nat.lt_trans (lt n) hP
   obtain ⟨k, hk⟩ : ∃ k, k = wd Y 0 % 4294967296 := ⟨_, rfl⟩
   have hk2 : k < 18446744073709551616 := by omega
   have hk3 : k < 2 ^ 256 := Nat.lt_trans hk2 (by decide)
   obtain ⟨D, r, hD, hr, hdr, cd⟩ := div_ex N Q hN hQ hq
   have hrv : N % Q = r := by rw [hdr, Nat.mul_comm, Nat.mul_add_mod, Nat.mod_eq_of_lt hr]
   obtain ⟨Lo, Hi, hLo, hHi, hm, cm⟩ := mul_ex N k hN hk3
   obtain ⟨e, he, hev, cw⟩ := wide_ex Lo Hi Q hLo hHi hQ hq
   obtain ⟨S, c, hS, hc, hs, ca⟩ := add_ex N k hN hk3
   have hc2 : c < 2 ^ 256 := Nat.lt_of_le_of_lt hc (by decide)
   obtain ⟨f, hf, hfv, cw2⟩ := wide_ex S c Q hS hc2 hQ hq
   have hev2 : N * k % Q = e := by rw [hev, hm]; congr 1; unfold wide; omega
   have hfv2 : (N + k) % Q = f := by rw [hfv, hs]; congr 1; unfold wide; omega
   have m1 : ∀ n, mayB P (A ^ n % P) = true := fun n => in_may (in_of (Q := Q) h1 hQ0 (lt _) (by rw [← Nat.pow_mod, ← Nat.pow_mul, Nat.mul_comm, Nat.pow_mul, Nat.pow_mod, aQ, Nat.one_pow, Nat.mod_eq_of_lt h1]))
   have mA := in_may ha
   have c2 := gexp_yes P Q G H A r hP hA (Nat.lt_trans hr hQ) mA
   rw [← hrv, ← pow_red aQ h1 N, hrv] at c2
   have c3 := gexp_yes P Q G H (A ^ N % P) k hP (ltB _) hk3 (m1 N)
   rw [← Nat.pow_mod, ← Nat.pow_mul] at c3
   have c4 := gexp_yes P Q G H A e hP hA (Nat.lt_trans he hQ) mA
   rw [show A ^ e % P = A ^ (N * k) % P by rw [pow_red aQ h1 (N * k), hev2]] at c4
   have c6 := gmul_yes P Q G H (A ^ N % P) (A ^ k % P) hP (ltB _) (ltB _) (m1 N) (m1 k)
   rw [← Nat.mul_mod, ← Nat.pow_add] at c6
   have c7 := gexp_yes P Q G H A f hP hA (Nat.lt_trans hf hQ) mA
   rw [show A ^ f % P = A ^ (N + k) % P by rw [pow_red aQ h1 (N + k), hfv2]] at c7
   exact round_2 P Q G H A N Y k D r (A ^ N % P) (A ^ (N * k) % P) Lo Hi e (A ^ k % P) (A ^ (N + k) % P) S c f hQ (decide_eq_false hq) (I A hA _ ha) (fun w => hk ▸ of8_any k hk2 w) cd (gexp_yes P Q G H A N hP hA hN mA) c2 c3 cm cw c4
    (gexp_yes P Q G H A k hP hA hk3 mA) c6 ca (fun w => of8_any c (by omega) w) cw2 c7 w
end Go.Proofs.Ytbggihkigblnfaa
