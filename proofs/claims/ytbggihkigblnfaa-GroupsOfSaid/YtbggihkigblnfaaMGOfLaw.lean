/-
 The walk of GroupsOf: it answers true, and nothing that was there is changed.
-/
import Derived.Deep.Cut
import Derived.Test.YtbggihkigblnfaaMGBoth
import Derived.Test.YtbggihkigblnfaaMSxD
import Derived.Test.YtbggihkigblnfaaMTree
namespace Go.Proofs.Ytbggihkigblnfaa
set_option maxRecDepth 100000
open Go.RowKit
set_option linter.unusedSimpArgs false
set_option linter.unusedVariables false
attribute [local go_sem ↓] Go.wp_at_zero Go.wp_at_succ

set_option maxRecDepth 100000 in
set_option maxHeartbeats 8000000 in
theorem gof_w (P Q G H A B X Y Z : Nat) (e1 e2 e3 : Int) (b : Bool)
  (m1 : ∀ w, Calls Try.prog 14 #[grp P Q G H, num A, num B] w fun e w' => e = .returned (.tuple #[num X, .int .i64 e1]) ∧ Below w.heap.size w w')
  (m2 : ∀ w, Calls Try.prog 15 #[grp P Q G H, num A] w fun e w' => e = .returned (.tuple #[num Y, .int .i64 e2]) ∧ Below w.heap.size w w')
  (m3 : ∀ w, Calls Try.prog 16 #[grp P Q G H, num A, num B] w fun e w' => e = .returned (.tuple #[num Z, .int .i64 e3]) ∧ Below w.heap.size w w')
  (n1 : ∀ w, Calls Try.prog 17 #[grp P Q G H, num A, num B] w fun e w' => e = .returned (.tuple #[num X, .int .i64 e1]) ∧ Below w.heap.size w w')
  (n2 : ∀ w, Calls Try.prog 18 #[grp P Q G H, num A] w fun e w' => e = .returned (.tuple #[num Y, .int .i64 e2]) ∧ Below w.heap.size w w')
  (n3 : ∀ w, Calls Try.prog 19 #[grp P Q G H, num A, num B] w fun e w' => e = .returned (.tuple #[num Z, .int .i64 e3]) ∧ Below w.heap.size w w')
  (i1 : ∀ w, Calls Try.prog 20 #[grp P Q G H, num A] w fun e w' => e = .returned (.bool b) ∧ Below w.heap.size w w')
  (i2 : ∀ w, Calls Try.prog 21 #[grp P Q G H, num A] w fun e w' => e = .returned (.bool b) ∧ Below w.heap.size w w')
  (w : World) : Calls Try.prog 4 #[grp P Q G H, num A, num B] w fun e w' => e = .returned (.bool true) ∧ Below w.heap.size w w' := by
 refine sx_enter (args := [grp P Q G H, num A, num B]) Try.func4 rfl Try.ntmps4 (by rfl) fun a F HM => ?_
 repeat (first | refine ex_then ?_ | refine ex_block ?_ | refine wp_seq ?_ | refine wp_block ?_ | refine wp_skip ?_)
 refine wp_region_lit ?_
 refine lx_new F HM (wanted_none rfl _) rfl (by rfl) (o_boxG (F.ev rfl)) fun a w gr F HM => ?_
 refine lx_new F HM (wanted_none rfl _) rfl (by rfl) (o_boxN (F.ev rfl)) fun a w ga F HM => ?_
 refine lx_new F HM (wanted_none rfl _) rfl (by rfl) (o_boxN (F.ev rfl)) fun a w gb F HM => ?_
 refine lx_value (v := .bool false) F (wanted_none rfl _) rfl (by rfl) (o_assign rfl) fun a F => ?_
 refine lx_nil ?_
 repeat (first | refine ex_then ?_ | refine ex_block ?_ | refine wp_seq ?_ | refine wp_block ?_ | refine wp_skip ?_)
 refine wp_region_lit ?_
 refine lx_value (v := grp P Q G H) F (wanted_none rfl _) rfl (by rfl) (o_loadG (F.ev rfl) (HM.get 2 rfl)) fun a F => ?_
 refine lx_value (v := num A) F (wanted_none rfl _) rfl (by rfl) (o_loadN (F.ev rfl) (HM.get 1 rfl)) fun a F => ?_
 refine lx_value (v := num B) F (wanted_none rfl _) rfl (by rfl) (o_loadN (F.ev rfl) (HM.get 0 rfl)) fun a F => ?_
 refine lx_call F (wanted_none rfl _) rfl (by rfl) (run_callF Try.func14 (by kernel_rfl) (by rfl) (.cons (F.ev rfl) (.cons (F.ev rfl) (.cons (F.ev rfl) .nil))) _) (m1 _) fun a w z F => ?_
 replace HM := HM.on z
 clear z
 refine lx_value (v := .tuple #[num X, .int .i64 e1]) F (wanted_none rfl _) rfl (by rfl) (o_move (F.ev rfl)) fun a F => ?_
 refine lx_value (v := num X) F (wanted_none rfl _) rfl (by rfl) (o_extract (F.ev rfl) rfl) fun a F => ?_
 refine lx_value (v := .int .i64 e1) F (wanted_none rfl _) rfl (by rfl) (o_extract (F.ev rfl) rfl) fun a F => ?_
 refine lx_new F HM (wanted_none rfl _) rfl (by rfl) (o_allocN) fun a w gx F HM => ?_
 refine lx_store F HM (wanted_none rfl _) rfl (k := 0) rfl (o_storeN (F.ev rfl) (F.ev rfl) (HM.get 0 rfl)) (M2 := [(gx, 24, ncs X), (gb, 24, ncs B), (ga, 24, ncs A), (gr, 35, gcs P Q G H)]) rfl fun w HM => ?_
 refine lx_value (v := .int .i64 e1) F (wanted_none rfl _) rfl (by rfl) (o_assign (F.ev rfl)) fun a F => ?_
 refine lx_nil ?_
 repeat (first | refine ex_then ?_ | refine ex_block ?_ | refine wp_seq ?_ | refine wp_block ?_ | refine wp_skip ?_)
 refine wp_region_lit ?_
 refine lx_value (v := grp P Q G H) F (wanted_none rfl _) rfl (by rfl) (o_loadG (F.ev rfl) (HM.get 3 rfl)) fun a F => ?_
 refine lx_value (v := num A) F (wanted_none rfl _) rfl (by rfl) (o_loadN (F.ev rfl) (HM.get 2 rfl)) fun a F => ?_
 refine lx_call F (wanted_none rfl _) rfl (by rfl) (run_callF Try.func15 (by kernel_rfl) (by rfl) (.cons (F.ev rfl) (.cons (F.ev rfl) .nil)) _) (m2 _) fun a w z F => ?_
 replace HM := HM.on z
 clear z
 refine lx_value (v := .tuple #[num Y, .int .i64 e2]) F (wanted_none rfl _) rfl (by rfl) (o_move (F.ev rfl)) fun a F => ?_
 refine lx_value (v := num Y) F (wanted_none rfl _) rfl (by rfl) (o_extract (F.ev rfl) rfl) fun a F => ?_
 refine lx_value (v := .int .i64 e2) F (wanted_none rfl _) rfl (by rfl) (o_extract (F.ev rfl) rfl) fun a F => ?_
 refine lx_new F HM (wanted_none rfl _) rfl (by rfl) (o_allocN) fun a w gy F HM => ?_
 refine lx_store F HM (wanted_none rfl _) rfl (k := 0) rfl (o_storeN (F.ev rfl) (F.ev rfl) (HM.get 0 rfl)) (M2 := [(gy, 24, ncs Y), (gx, 24, ncs X), (gb, 24, ncs B), (ga, 24, ncs A), (gr, 35, gcs P Q G H)]) rfl fun w HM => ?_
 refine lx_value (v := .int .i64 e2) F (wanted_none rfl _) rfl (by rfl) (o_assign (F.ev rfl)) fun a F => ?_
 refine lx_nil ?_
 repeat (first | refine ex_then ?_ | refine ex_block ?_ | refine wp_seq ?_ | refine wp_block ?_ | refine wp_skip ?_)
 refine wp_region_lit ?_
 refine lx_value (v := grp P Q G H) F (wanted_none rfl _) rfl (by rfl) (o_loadG (F.ev rfl) (HM.get 4 rfl)) fun a F => ?_
 refine lx_value (v := num A) F (wanted_none rfl _) rfl (by rfl) (o_loadN (F.ev rfl) (HM.get 3 rfl)) fun a F => ?_
 refine lx_value (v := num B) F (wanted_none rfl _) rfl (by rfl) (o_loadN (F.ev rfl) (HM.get 2 rfl)) fun a F => ?_
 refine lx_call F (wanted_none rfl _) rfl (by rfl) (run_callF Try.func16 (by kernel_rfl) (by rfl) (.cons (F.ev rfl) (.cons (F.ev rfl) (.cons (F.ev rfl) .nil))) _) (m3 _) fun a w z F => ?_
 replace HM := HM.on z
 clear z
 refine lx_value (v := .tuple #[num Z, .int .i64 e3]) F (wanted_none rfl _) rfl (by rfl) (o_move (F.ev rfl)) fun a F => ?_
 refine lx_value (v := num Z) F (wanted_none rfl _) rfl (by rfl) (o_extract (F.ev rfl) rfl) fun a F => ?_
 refine lx_value (v := .int .i64 e3) F (wanted_none rfl _) rfl (by rfl) (o_extract (F.ev rfl) rfl) fun a F => ?_
 refine lx_new F HM (wanted_none rfl _) rfl (by rfl) (o_allocN) fun a w gz F HM => ?_
 refine lx_store F HM (wanted_none rfl _) rfl (k := 0) rfl (o_storeN (F.ev rfl) (F.ev rfl) (HM.get 0 rfl)) (M2 := [(gz, 24, ncs Z), (gy, 24, ncs Y), (gx, 24, ncs X), (gb, 24, ncs B), (ga, 24, ncs A), (gr, 35, gcs P Q G H)]) rfl fun w HM => ?_
 refine lx_value (v := .int .i64 e3) F (wanted_none rfl _) rfl (by rfl) (o_assign (F.ev rfl)) fun a F => ?_
 refine lx_nil ?_
 repeat (first | refine ex_then ?_ | refine ex_block ?_ | refine wp_seq ?_ | refine wp_block ?_ | refine wp_skip ?_)
 refine wp_region_lit ?_
 refine lx_value (v := grp P Q G H) F (wanted_none rfl _) rfl (by rfl) (o_loadG (F.ev rfl) (HM.get 5 rfl)) fun a F => ?_
 refine lx_value (v := num A) F (wanted_none rfl _) rfl (by rfl) (o_loadN (F.ev rfl) (HM.get 4 rfl)) fun a F => ?_
 refine lx_value (v := num B) F (wanted_none rfl _) rfl (by rfl) (o_loadN (F.ev rfl) (HM.get 3 rfl)) fun a F => ?_
 refine lx_call F (wanted_none rfl _) rfl (by rfl) (run_callF Try.func17 (by kernel_rfl) (by rfl) (.cons (F.ev rfl) (.cons (F.ev rfl) (.cons (F.ev rfl) .nil))) _) (n1 _) fun a w z F => ?_
 replace HM := HM.on z
 clear z
 refine lx_value (v := .tuple #[num X, .int .i64 e1]) F (wanted_none rfl _) rfl (by rfl) (o_move (F.ev rfl)) fun a F => ?_
 refine lx_value (v := num X) F (wanted_none rfl _) rfl (by rfl) (o_extract (F.ev rfl) rfl) fun a F => ?_
 refine lx_value (v := .int .i64 e1) F (wanted_none rfl _) rfl (by rfl) (o_extract (F.ev rfl) rfl) fun a F => ?_
 refine lx_new F HM (wanted_none rfl _) rfl (by rfl) (o_allocN) fun a w gp F HM => ?_
 refine lx_store F HM (wanted_none rfl _) rfl (k := 0) rfl (o_storeN (F.ev rfl) (F.ev rfl) (HM.get 0 rfl)) (M2 := [(gp, 24, ncs X), (gz, 24, ncs Z), (gy, 24, ncs Y), (gx, 24, ncs X), (gb, 24, ncs B), (ga, 24, ncs A), (gr, 35, gcs P Q G H)]) rfl fun w HM => ?_
 refine lx_value (v := .int .i64 e1) F (wanted_none rfl _) rfl (by rfl) (o_assign (F.ev rfl)) fun a F => ?_
 refine lx_nil ?_
 repeat (first | refine ex_then ?_ | refine ex_block ?_ | refine wp_seq ?_ | refine wp_block ?_ | refine wp_skip ?_)
 refine wp_region_lit ?_
 refine lx_value (v := grp P Q G H) F (wanted_none rfl _) rfl (by rfl) (o_loadG (F.ev rfl) (HM.get 6 rfl)) fun a F => ?_
 refine lx_value (v := num A) F (wanted_none rfl _) rfl (by rfl) (o_loadN (F.ev rfl) (HM.get 5 rfl)) fun a F => ?_
 refine lx_call F (wanted_none rfl _) rfl (by rfl) (run_callF Try.func18 (by kernel_rfl) (by rfl) (.cons (F.ev rfl) (.cons (F.ev rfl) .nil)) _) (n2 _) fun a w z F => ?_
 replace HM := HM.on z
 clear z
 refine lx_value (v := .tuple #[num Y, .int .i64 e2]) F (wanted_none rfl _) rfl (by rfl) (o_move (F.ev rfl)) fun a F => ?_
 refine lx_value (v := num Y) F (wanted_none rfl _) rfl (by rfl) (o_extract (F.ev rfl) rfl) fun a F => ?_
 refine lx_value (v := .int .i64 e2) F (wanted_none rfl _) rfl (by rfl) (o_extract (F.ev rfl) rfl) fun a F => ?_
 refine lx_new F HM (wanted_none rfl _) rfl (by rfl) (o_allocN) fun a w gq F HM => ?_
 refine lx_store F HM (wanted_none rfl _) rfl (k := 0) rfl (o_storeN (F.ev rfl) (F.ev rfl) (HM.get 0 rfl)) (M2 := [(gq, 24, ncs Y), (gp, 24, ncs X), (gz, 24, ncs Z), (gy, 24, ncs Y), (gx, 24, ncs X), (gb, 24, ncs B), (ga, 24, ncs A), (gr, 35, gcs P Q G H)]) rfl fun w HM => ?_
 refine lx_value (v := .int .i64 e2) F (wanted_none rfl _) rfl (by rfl) (o_assign (F.ev rfl)) fun a F => ?_
 refine lx_nil ?_
 repeat (first | refine ex_then ?_ | refine ex_block ?_ | refine wp_seq ?_ | refine wp_block ?_ | refine wp_skip ?_)
 refine wp_region_lit ?_
 refine lx_value (v := grp P Q G H) F (wanted_none rfl _) rfl (by rfl) (o_loadG (F.ev rfl) (HM.get 7 rfl)) fun a F => ?_
 refine lx_value (v := num A) F (wanted_none rfl _) rfl (by rfl) (o_loadN (F.ev rfl) (HM.get 6 rfl)) fun a F => ?_
 refine lx_value (v := num B) F (wanted_none rfl _) rfl (by rfl) (o_loadN (F.ev rfl) (HM.get 5 rfl)) fun a F => ?_
 refine lx_call F (wanted_none rfl _) rfl (by rfl) (run_callF Try.func19 (by kernel_rfl) (by rfl) (.cons (F.ev rfl) (.cons (F.ev rfl) (.cons (F.ev rfl) .nil))) _) (n3 _) fun a w z F => ?_
 replace HM := HM.on z
 clear z
 refine lx_value (v := .tuple #[num Z, .int .i64 e3]) F (wanted_none rfl _) rfl (by rfl) (o_move (F.ev rfl)) fun a F => ?_
 refine lx_value (v := num Z) F (wanted_none rfl _) rfl (by rfl) (o_extract (F.ev rfl) rfl) fun a F => ?_
 refine lx_value (v := .int .i64 e3) F (wanted_none rfl _) rfl (by rfl) (o_extract (F.ev rfl) rfl) fun a F => ?_
 refine lx_new F HM (wanted_none rfl _) rfl (by rfl) (o_allocN) fun a w gu F HM => ?_
 refine lx_store F HM (wanted_none rfl _) rfl (k := 0) rfl (o_storeN (F.ev rfl) (F.ev rfl) (HM.get 0 rfl)) (M2 := [(gu, 24, ncs Z), (gq, 24, ncs Y), (gp, 24, ncs X), (gz, 24, ncs Z), (gy, 24, ncs Y), (gx, 24, ncs X), (gb, 24, ncs B), (ga, 24, ncs A), (gr, 35, gcs P Q G H)]) rfl fun w HM => ?_
 refine lx_value (v := .int .i64 e3) F (wanted_none rfl _) rfl (by rfl) (o_assign (F.ev rfl)) fun a F => ?_
 refine lx_nil ?_
 repeat (first | refine ex_then ?_ | refine ex_block ?_ | refine wp_seq ?_ | refine wp_block ?_ | refine wp_skip ?_)
 try simp only [List.append_eq, List.cons_append, List.nil_append]
 refine sx_drawn [⟨0, 59, [], .val (grp P Q G H), true⟩,
   ⟨1, 60, [0], .val (num A), true⟩,
   ⟨3, 62, [1], .val (grp P Q G H), true⟩,
   ⟨4, 63, [2], .val (num A), true⟩,
   ⟨2, 61, [0, 1, 3], .val (.bool b), false⟩,
   ⟨5, 64, [2, 3, 4], .val (.bool b), false⟩,
   ⟨6, 65, [4, 5], .val (.bool true), true⟩,
   ⟨7, 66, [6], .val (.bool true), true⟩,
   ⟨8, 67, [7], .val (num X), true⟩,
   ⟨9, 68, [7, 8], .val (num X), true⟩,
   ⟨10, 69, [7, 8, 9], .val (.bool true), true⟩,
   ⟨11, 70, [7, 10], .val (.bool true), true⟩,
   ⟨12, 71, [11], .val (.bool true), true⟩,
   ⟨13, 72, [12], .val (num Y), true⟩,
   ⟨14, 73, [12, 13], .val (num Y), true⟩,
   ⟨15, 74, [12, 13, 14], .val (.bool true), true⟩,
   ⟨16, 75, [12, 15], .val (.bool true), true⟩,
   ⟨17, 76, [16], .val (.bool true), true⟩,
   ⟨18, 77, [17], .val (num Z), true⟩,
   ⟨19, 78, [17, 18], .val (num Z), true⟩,
   ⟨20, 79, [17, 18, 19], .val (.bool true), true⟩,
   ⟨21, 80, [17, 20], .val (.bool true), true⟩,
   ⟨22, 81, [21], .val (.bool true), true⟩,
   ⟨23, 82, [22], .val (.int .i64 e1), true⟩,
   ⟨24, 83, [22, 23], .val (.int .i64 e1), true⟩,
   ⟨25, 84, [22, 23, 24], .val (.bool true), true⟩,
   ⟨26, 85, [22, 25], .val (.bool true), true⟩,
   ⟨27, 86, [26], .val (.bool true), true⟩,
   ⟨28, 87, [27], .val (.int .i64 e2), true⟩,
   ⟨29, 88, [27, 28], .val (.int .i64 e2), true⟩,
   ⟨30, 89, [27, 28, 29], .val (.bool true), true⟩,
   ⟨31, 90, [27, 30], .val (.bool true), true⟩,
   ⟨32, 91, [31], .val (.bool true), true⟩,
   ⟨33, 92, [32], .val (.int .i64 e3), true⟩,
   ⟨34, 93, [32, 33], .val (.int .i64 e3), true⟩,
   ⟨35, 94, [32, 33, 34], .val (.bool true), true⟩,
   ⟨36, 95, [32, 35], .val (.bool true), true⟩] 1 F HM (by kernel_rfl) (by rfl) (by rfl) ?_ ?_ ?_ ?_ ?_ ?_ ?_
 ·kernel_rfl
 ·exact of_decide_eq_true (by kernel_rfl)
 ·(repeat refine all_cons ⟨_, by rfl, by rfl⟩ ?_); exact all_nil
 ·kernel_rfl
 ·(repeat (refine all_cons ?_ ?_; rotate_left)); exact all_nil
  ·exact coreS _ _ _ _ _ _ _ (by rfl) (by rfl) (wants_none) (fun ρ w kn hs => o_loadG (kn _ _ (F.old (by rfl) rfl)) (hs.get 8 rfl))
  ·exact coreS _ _ _ _ _ _ _ (by rfl) (by rfl) (wants_none) (fun ρ w kn hs => o_loadN (kn _ _ (F.old (by rfl) rfl)) (hs.get 7 rfl))
  ·exact coreS _ _ _ _ _ _ _ (by rfl) (by rfl) (wants_none) (fun ρ w kn hs => o_loadG (kn _ _ (F.old (by rfl) rfl)) (hs.get 8 rfl))
  ·exact coreS _ _ _ _ _ _ _ (by rfl) (by rfl) (wants_none) (fun ρ w kn hs => o_loadN (kn _ _ (F.old (by rfl) rfl)) (hs.get 7 rfl))
  ·exact core_pureAs _ (by rfl)
  ·exact core_pureAs _ (by rfl)
  ·exact coreS _ _ _ _ _ _ _ (by rfl) (by rfl) (wants_none) (fun ρ w kn hs => o_bin (u := .bool b) (v := .bool b) (fun ρ hx hy => by simp only [execOp, hx, hy]; simp [go_sem]) (kn _ _ (kc 4 61)) (kn _ _ (kc 5 64)))
  ·exact coreS _ _ _ _ _ _ _ (by rfl) (by rfl) (wants_none) (fun ρ w kn hs => o_move (kn _ _ (kc 6 65)))
  ·exact coreS _ _ _ _ _ _ _ (by rfl) (by rfl) (wc 7 66 7 (kc 7 66)) (fun ρ w kn hs => o_loadN (kn _ _ (F.old (by rfl) rfl)) (hs.get 5 rfl))
  ·exact coreS _ _ _ _ _ _ _ (by rfl) (by rfl) (wc 7 66 7 (kc 7 66)) (fun ρ w kn hs => o_loadN (kn _ _ (F.old (by rfl) rfl)) (hs.get 2 rfl))
  ·exact coreS _ _ _ _ _ _ _ (by rfl) (by rfl) (wc 7 66 7 (kc 7 66)) (fun ρ w kn hs => o_eqlS (kn _ _ (kc 8 67)) (kn _ _ (kc 9 68)))
  ·exact coreS _ _ _ _ _ _ _ (by rfl) (by rfl) (wants_none) (fun ρ w kn hs => o_pick (b := true) (r := .bool true) (kn _ _ (kc 7 66)) (kn _ _ (kc 10 69)) (kn _ _ (known_const _)) rfl)
  ·exact coreS _ _ _ _ _ _ _ (by rfl) (by rfl) (wants_none) (fun ρ w kn hs => o_move (kn _ _ (kc 11 70)))
  ·exact coreS _ _ _ _ _ _ _ (by rfl) (by rfl) (wc 12 71 12 (kc 12 71)) (fun ρ w kn hs => o_loadN (kn _ _ (F.old (by rfl) rfl)) (hs.get 4 rfl))
  ·exact coreS _ _ _ _ _ _ _ (by rfl) (by rfl) (wc 12 71 12 (kc 12 71)) (fun ρ w kn hs => o_loadN (kn _ _ (F.old (by rfl) rfl)) (hs.get 1 rfl))
  ·exact coreS _ _ _ _ _ _ _ (by rfl) (by rfl) (wc 12 71 12 (kc 12 71)) (fun ρ w kn hs => o_eqlS (kn _ _ (kc 13 72)) (kn _ _ (kc 14 73)))
  ·exact coreS _ _ _ _ _ _ _ (by rfl) (by rfl) (wants_none) (fun ρ w kn hs => o_pick (b := true) (r := .bool true) (kn _ _ (kc 12 71)) (kn _ _ (kc 15 74)) (kn _ _ (known_const _)) rfl)
  ·exact coreS _ _ _ _ _ _ _ (by rfl) (by rfl) (wants_none) (fun ρ w kn hs => o_move (kn _ _ (kc 16 75)))
  ·exact coreS _ _ _ _ _ _ _ (by rfl) (by rfl) (wc 17 76 17 (kc 17 76)) (fun ρ w kn hs => o_loadN (kn _ _ (F.old (by rfl) rfl)) (hs.get 3 rfl))
  ·exact coreS _ _ _ _ _ _ _ (by rfl) (by rfl) (wc 17 76 17 (kc 17 76)) (fun ρ w kn hs => o_loadN (kn _ _ (F.old (by rfl) rfl)) (hs.get 0 rfl))
  ·exact coreS _ _ _ _ _ _ _ (by rfl) (by rfl) (wc 17 76 17 (kc 17 76)) (fun ρ w kn hs => o_eqlS (kn _ _ (kc 18 77)) (kn _ _ (kc 19 78)))
  ·exact coreS _ _ _ _ _ _ _ (by rfl) (by rfl) (wants_none) (fun ρ w kn hs => o_pick (b := true) (r := .bool true) (kn _ _ (kc 17 76)) (kn _ _ (kc 20 79)) (kn _ _ (known_const _)) rfl)
  ·exact coreS _ _ _ _ _ _ _ (by rfl) (by rfl) (wants_none) (fun ρ w kn hs => o_move (kn _ _ (kc 21 80)))
  ·exact coreS _ _ _ _ _ _ _ (by rfl) (by rfl) (wc 22 81 22 (kc 22 81)) (fun ρ w kn hs => o_move (kn _ _ (F.old (by rfl) rfl)))
  ·exact coreS _ _ _ _ _ _ _ (by rfl) (by rfl) (wc 22 81 22 (kc 22 81)) (fun ρ w kn hs => o_move (kn _ _ (F.old (by rfl) rfl)))
  ·exact coreS _ _ _ _ _ _ _ (by rfl) (by rfl) (wc 22 81 22 (kc 22 81)) (fun ρ w kn hs => o_bin (u := .int .i64 e1) (v := .int .i64 e1) (fun ρ hx hy => by simp only [execOp, hx, hy]; simp [go_sem]) (kn _ _ (kc 23 82)) (kn _ _ (kc 24 83)))
  ·exact coreS _ _ _ _ _ _ _ (by rfl) (by rfl) (wants_none) (fun ρ w kn hs => o_pick (b := true) (r := .bool true) (kn _ _ (kc 22 81)) (kn _ _ (kc 25 84)) (kn _ _ (known_const _)) rfl)
  ·exact coreS _ _ _ _ _ _ _ (by rfl) (by rfl) (wants_none) (fun ρ w kn hs => o_move (kn _ _ (kc 26 85)))
  ·exact coreS _ _ _ _ _ _ _ (by rfl) (by rfl) (wc 27 86 27 (kc 27 86)) (fun ρ w kn hs => o_move (kn _ _ (F.old (by rfl) rfl)))
  ·exact coreS _ _ _ _ _ _ _ (by rfl) (by rfl) (wc 27 86 27 (kc 27 86)) (fun ρ w kn hs => o_move (kn _ _ (F.old (by rfl) rfl)))
  ·exact coreS _ _ _ _ _ _ _ (by rfl) (by rfl) (wc 27 86 27 (kc 27 86)) (fun ρ w kn hs => o_bin (u := .int .i64 e2) (v := .int .i64 e2) (fun ρ hx hy => by simp only [execOp, hx, hy]; simp [go_sem]) (kn _ _ (kc 28 87)) (kn _ _ (kc 29 88)))
  ·exact coreS _ _ _ _ _ _ _ (by rfl) (by rfl) (wants_none) (fun ρ w kn hs => o_pick (b := true) (r := .bool true) (kn _ _ (kc 27 86)) (kn _ _ (kc 30 89)) (kn _ _ (known_const _)) rfl)
  ·exact coreS _ _ _ _ _ _ _ (by rfl) (by rfl) (wants_none) (fun ρ w kn hs => o_move (kn _ _ (kc 31 90)))
  ·exact coreS _ _ _ _ _ _ _ (by rfl) (by rfl) (wc 32 91 32 (kc 32 91)) (fun ρ w kn hs => o_move (kn _ _ (F.old (by rfl) rfl)))
  ·exact coreS _ _ _ _ _ _ _ (by rfl) (by rfl) (wc 32 91 32 (kc 32 91)) (fun ρ w kn hs => o_move (kn _ _ (F.old (by rfl) rfl)))
  ·exact coreS _ _ _ _ _ _ _ (by rfl) (by rfl) (wc 32 91 32 (kc 32 91)) (fun ρ w kn hs => o_bin (u := .int .i64 e3) (v := .int .i64 e3) (fun ρ hx hy => by simp only [execOp, hx, hy]; simp [go_sem]) (kn _ _ (kc 33 92)) (kn _ _ (kc 34 93)))
  ·exact coreS _ _ _ _ _ _ _ (by rfl) (by rfl) (wants_none) (fun ρ w kn hs => o_pick (b := true) (r := .bool true) (kn _ _ (kc 32 91)) (kn _ _ (kc 35 94)) (kn _ _ (known_const _)) rfl)
 ·(repeat (refine all_cons ?_ ?_; rotate_left)); exact all_nil
  ·exact sA
  ·exact sA
  ·exact sA
  ·exact sA
  ·exact fun _ => coreG_call _ 20 _ _ [.tmp 59, .tmp 60] _ _ _ _ _ _ _ (by rfl) Try.func20 (by kernel_rfl) (by rfl) (by rfl) (wants_none) (.cons (kc 0 59) (.cons (kc 1 60) .nil)) (i1)
  ·exact fun _ => coreG_call _ 21 _ _ [.tmp 62, .tmp 63] _ _ _ _ _ _ _ (by rfl) Try.func21 (by kernel_rfl) (by rfl) (by rfl) (wants_none) (.cons (kc 2 62) (.cons (kc 3 63) .nil)) (i2)
  ·exact sA
  ·exact sA
  ·exact sA
  ·exact sA
  ·exact sA
  ·exact sA
  ·exact sA
  ·exact sA
  ·exact sA
  ·exact sA
  ·exact sA
  ·exact sA
  ·exact sA
  ·exact sA
  ·exact sA
  ·exact sA
  ·exact sA
  ·exact sA
  ·exact sA
  ·exact sA
  ·exact sA
  ·exact sA
  ·exact sA
  ·exact sA
  ·exact sA
  ·exact sA
  ·exact sA
  ·exact sA
  ·exact sA
  ·exact sA
  ·exact sA
 intro gs rs a w hgs hrs F HM
 obtain rfl := nl0 rs hrs
 clear hrs
 obtain rfl := nl0 gs hgs
 clear hgs
 refine sx_assign (i := 37) (d := 6) (x := .tmp 95) (v := .bool true) F (HM) (by kernel_rfl) (by rfl) (by rfl) (F.ev rfl) fun a F => ?_
 refine sx_done (by kernel_rfl) ?_ _
 repeat (first | refine ex_then ?_ | refine ex_block ?_ | refine wp_seq ?_ | refine wp_block ?_ | refine wp_skip ?_)
 refine wp_ret ?_
 repeat (first | refine ex_thenR ?_ | refine ex_blockR ?_)
 exact sx_ret F HM (res_tmp F rfl (s := 6) rfl)

theorem gof_walk (P Q G H A B : Nat) (hP : P < 2 ^ 256) (hQ : Q < 2 ^ 256) (hA : A < 2 ^ 256) (hB : B < 2 ^ 256) (w : World) : Calls Try.prog 4 #[grp P Q G H, num A, num B] w fun e w' => e = .returned (.bool true) ∧ Below w.heap.size w w' := by
 obtain ⟨X, e1, m1, n1⟩ := gboth_mul P Q G H A B hP hA hB
 obtain ⟨Y, e2, m2, n2⟩ := gboth_inv P Q G H A hP hA
 obtain ⟨Z, e3, m3, n3⟩ := gboth_exp P Q G H A B hP hA hB
 exact gof_w P Q G H A B X Y Z e1 e2 e3 (inB P Q A) m1 m2 m3 n1 n2 n3 (gin_any P Q G H A hP hQ hA) (r8in_any P Q G H A hP hQ hA) w
end Go.Proofs.Ytbggihkigblnfaa
