/-
  scalars: Add, Sub, Mul, Inv.
-/
import Derived.Deep.Cut
import Derived.Test.YtodlpmepoakdlaaWMod11
import Derived.Test.YtodlpmepoakdlaaWSc
import Derived.Test.YtodlpmepoakdlaaWShort
namespace Go.Proofs.Ytodlpmepoakdlaa
set_option maxRecDepth 100000
open Go.RowKit
set_option linter.unusedSimpArgs false
set_option linter.unusedVariables false
attribute [local go_sem ↓] Go.wp_at_zero Go.wp_at_succ

set_option maxRecDepth 100000 in
set_option maxHeartbeats 8000000 in
theorem s_add (P Q G H A B V : Nat) (er : Int)
    (c1 : ∀ w, Calls Try.prog 33 #[num A, num B, num Q] w fun e w' => e = .returned (.tuple #[num V, .int .i64 er]) ∧ Below w.heap.size w w')
    (w : World) : Calls Try.prog 14 #[grp P Q G H, num A, num B] w fun e w' => e = .returned (.tuple #[num V, .int .i64 er]) ∧ Below w.heap.size w w' := by
  refine sx_enter (args := [grp P Q G H, num A, num B]) Try.func14 rfl Try.ntmps14 (by rfl) fun a F HM => ?_
  repeat (first | refine ex_then ?_ | refine ex_block ?_ | refine wp_seq ?_ | refine wp_block ?_ | refine wp_skip ?_)
  refine wp_region_lit ?_
  refine lx_new F HM (wanted_none rfl _) rfl (by rfl) (o_boxG (F.ev rfl)) fun a w gg F HM => ?_
  refine lx_new F HM (wanted_none rfl _) rfl (by rfl) (o_boxN (F.ev rfl)) fun a w ga F HM => ?_
  refine lx_new F HM (wanted_none rfl _) rfl (by rfl) (o_boxN (F.ev rfl)) fun a w gb F HM => ?_
  refine lx_new F HM (wanted_none rfl _) rfl (by rfl) (o_allocN) fun a w go F HM => ?_
  refine lx_value (v := .int .i64 0) F (wanted_none rfl _) rfl (by rfl) (o_assign rfl) fun a F => ?_
  refine lx_nil ?_
  repeat (first | refine ex_then ?_ | refine ex_block ?_ | refine wp_seq ?_ | refine wp_block ?_ | refine wp_skip ?_)
  refine wp_region_lit ?_
  refine lx_value (v := num A) F (wanted_none rfl _) rfl (by rfl) (o_loadN (F.ev rfl) (HM.get 2 rfl)) fun a F => ?_
  refine lx_value (v := num B) F (wanted_none rfl _) rfl (by rfl) (o_loadN (F.ev rfl) (HM.get 1 rfl)) fun a F => ?_
  refine lx_value (v := .pointer (some ⟨gg, 4, none⟩)) F (wanted_none rfl _) rfl (by rfl) (o_fieldG1 (F.ev rfl)) fun a F => ?_
  refine lx_value (v := num Q) F (wanted_none rfl _) rfl (by rfl) (o_loadG1 (F.ev rfl) (HM.get 3 rfl)) fun a F => ?_
  refine lx_call F (wanted_none rfl _) rfl (by rfl) (run_callF Try.func33 (by kernel_rfl) (by rfl) (.cons (F.ev rfl) (.cons (F.ev rfl) (.cons (F.ev rfl) .nil))) _) (c1 _) fun a w z F => ?_
  replace HM := HM.on z
  clear z
  refine lx_value (v := num V) F (wanted_none rfl _) rfl (by rfl) (o_extract (F.ev rfl) rfl) fun a F => ?_
  refine lx_value (v := .int .i64 er) F (wanted_none rfl _) rfl (by rfl) (o_extract (F.ev rfl) rfl) fun a F => ?_
  refine lx_store F HM (wanted_none rfl _) rfl (k := 0) rfl (o_storeN (F.ev rfl) (F.ev rfl) (HM.get 0 rfl)) (M2 := [(go, 24, ncs V), (gb, 24, ncs B), (ga, 24, ncs A), (gg, 35, gcs P Q G H)]) rfl fun w HM => ?_
  refine lx_value (v := .int .i64 er) F (wanted_none rfl _) rfl (by rfl) (o_assign (F.ev rfl)) fun a F => ?_
  refine lx_nil ?_
  repeat (first | refine ex_then ?_ | refine ex_block ?_ | refine wp_seq ?_ | refine wp_block ?_ | refine wp_skip ?_)
  refine wp_ret ?_
  repeat (first | refine ex_thenR ?_ | refine ex_blockR ?_)
  exact sx_ret F HM (res_NI F (s := 6) (t := 7) rfl rfl rfl (HM.get 0 rfl))

set_option maxRecDepth 100000 in
set_option maxHeartbeats 8000000 in
theorem s_sub (P Q G H A B V : Nat) (er : Int)
    (c1 : ∀ w, Calls Try.prog 34 #[num A, num B, num Q] w fun e w' => e = .returned (.tuple #[num V, .int .i64 er]) ∧ Below w.heap.size w w')
    (w : World) : Calls Try.prog 15 #[grp P Q G H, num A, num B] w fun e w' => e = .returned (.tuple #[num V, .int .i64 er]) ∧ Below w.heap.size w w' := by
  refine sx_enter (args := [grp P Q G H, num A, num B]) Try.func15 rfl Try.ntmps15 (by rfl) fun a F HM => ?_
  repeat (first | refine ex_then ?_ | refine ex_block ?_ | refine wp_seq ?_ | refine wp_block ?_ | refine wp_skip ?_)
  refine wp_region_lit ?_
  refine lx_new F HM (wanted_none rfl _) rfl (by rfl) (o_boxG (F.ev rfl)) fun a w gg F HM => ?_
  refine lx_new F HM (wanted_none rfl _) rfl (by rfl) (o_boxN (F.ev rfl)) fun a w ga F HM => ?_
  refine lx_new F HM (wanted_none rfl _) rfl (by rfl) (o_boxN (F.ev rfl)) fun a w gb F HM => ?_
  refine lx_new F HM (wanted_none rfl _) rfl (by rfl) (o_allocN) fun a w go F HM => ?_
  refine lx_value (v := .int .i64 0) F (wanted_none rfl _) rfl (by rfl) (o_assign rfl) fun a F => ?_
  refine lx_nil ?_
  repeat (first | refine ex_then ?_ | refine ex_block ?_ | refine wp_seq ?_ | refine wp_block ?_ | refine wp_skip ?_)
  refine wp_region_lit ?_
  refine lx_value (v := num A) F (wanted_none rfl _) rfl (by rfl) (o_loadN (F.ev rfl) (HM.get 2 rfl)) fun a F => ?_
  refine lx_value (v := num B) F (wanted_none rfl _) rfl (by rfl) (o_loadN (F.ev rfl) (HM.get 1 rfl)) fun a F => ?_
  refine lx_value (v := .pointer (some ⟨gg, 4, none⟩)) F (wanted_none rfl _) rfl (by rfl) (o_fieldG1 (F.ev rfl)) fun a F => ?_
  refine lx_value (v := num Q) F (wanted_none rfl _) rfl (by rfl) (o_loadG1 (F.ev rfl) (HM.get 3 rfl)) fun a F => ?_
  refine lx_call F (wanted_none rfl _) rfl (by rfl) (run_callF Try.func34 (by kernel_rfl) (by rfl) (.cons (F.ev rfl) (.cons (F.ev rfl) (.cons (F.ev rfl) .nil))) _) (c1 _) fun a w z F => ?_
  replace HM := HM.on z
  clear z
  refine lx_value (v := num V) F (wanted_none rfl _) rfl (by rfl) (o_extract (F.ev rfl) rfl) fun a F => ?_
  refine lx_value (v := .int .i64 er) F (wanted_none rfl _) rfl (by rfl) (o_extract (F.ev rfl) rfl) fun a F => ?_
  refine lx_store F HM (wanted_none rfl _) rfl (k := 0) rfl (o_storeN (F.ev rfl) (F.ev rfl) (HM.get 0 rfl)) (M2 := [(go, 24, ncs V), (gb, 24, ncs B), (ga, 24, ncs A), (gg, 35, gcs P Q G H)]) rfl fun w HM => ?_
  refine lx_value (v := .int .i64 er) F (wanted_none rfl _) rfl (by rfl) (o_assign (F.ev rfl)) fun a F => ?_
  refine lx_nil ?_
  repeat (first | refine ex_then ?_ | refine ex_block ?_ | refine wp_seq ?_ | refine wp_block ?_ | refine wp_skip ?_)
  refine wp_ret ?_
  repeat (first | refine ex_thenR ?_ | refine ex_blockR ?_)
  exact sx_ret F HM (res_NI F (s := 6) (t := 7) rfl rfl rfl (HM.get 0 rfl))

set_option maxRecDepth 100000 in
set_option maxHeartbeats 8000000 in
theorem s_mul (P Q G H A B V : Nat) (er : Int)
    (c1 : ∀ w, Calls Try.prog 35 #[num A, num B, num Q] w fun e w' => e = .returned (.tuple #[num V, .int .i64 er]) ∧ Below w.heap.size w w')
    (w : World) : Calls Try.prog 16 #[grp P Q G H, num A, num B] w fun e w' => e = .returned (.tuple #[num V, .int .i64 er]) ∧ Below w.heap.size w w' := by
  refine sx_enter (args := [grp P Q G H, num A, num B]) Try.func16 rfl Try.ntmps16 (by rfl) fun a F HM => ?_
  repeat (first | refine ex_then ?_ | refine ex_block ?_ | refine wp_seq ?_ | refine wp_block ?_ | refine wp_skip ?_)
  refine wp_region_lit ?_
  refine lx_new F HM (wanted_none rfl _) rfl (by rfl) (o_boxG (F.ev rfl)) fun a w gg F HM => ?_
  refine lx_new F HM (wanted_none rfl _) rfl (by rfl) (o_boxN (F.ev rfl)) fun a w ga F HM => ?_
  refine lx_new F HM (wanted_none rfl _) rfl (by rfl) (o_boxN (F.ev rfl)) fun a w gb F HM => ?_
  refine lx_new F HM (wanted_none rfl _) rfl (by rfl) (o_allocN) fun a w go F HM => ?_
  refine lx_value (v := .int .i64 0) F (wanted_none rfl _) rfl (by rfl) (o_assign rfl) fun a F => ?_
  refine lx_nil ?_
  repeat (first | refine ex_then ?_ | refine ex_block ?_ | refine wp_seq ?_ | refine wp_block ?_ | refine wp_skip ?_)
  refine wp_region_lit ?_
  refine lx_value (v := num A) F (wanted_none rfl _) rfl (by rfl) (o_loadN (F.ev rfl) (HM.get 2 rfl)) fun a F => ?_
  refine lx_value (v := num B) F (wanted_none rfl _) rfl (by rfl) (o_loadN (F.ev rfl) (HM.get 1 rfl)) fun a F => ?_
  refine lx_value (v := .pointer (some ⟨gg, 4, none⟩)) F (wanted_none rfl _) rfl (by rfl) (o_fieldG1 (F.ev rfl)) fun a F => ?_
  refine lx_value (v := num Q) F (wanted_none rfl _) rfl (by rfl) (o_loadG1 (F.ev rfl) (HM.get 3 rfl)) fun a F => ?_
  refine lx_call F (wanted_none rfl _) rfl (by rfl) (run_callF Try.func35 (by kernel_rfl) (by rfl) (.cons (F.ev rfl) (.cons (F.ev rfl) (.cons (F.ev rfl) .nil))) _) (c1 _) fun a w z F => ?_
  replace HM := HM.on z
  clear z
  refine lx_value (v := num V) F (wanted_none rfl _) rfl (by rfl) (o_extract (F.ev rfl) rfl) fun a F => ?_
  refine lx_value (v := .int .i64 er) F (wanted_none rfl _) rfl (by rfl) (o_extract (F.ev rfl) rfl) fun a F => ?_
  refine lx_store F HM (wanted_none rfl _) rfl (k := 0) rfl (o_storeN (F.ev rfl) (F.ev rfl) (HM.get 0 rfl)) (M2 := [(go, 24, ncs V), (gb, 24, ncs B), (ga, 24, ncs A), (gg, 35, gcs P Q G H)]) rfl fun w HM => ?_
  refine lx_value (v := .int .i64 er) F (wanted_none rfl _) rfl (by rfl) (o_assign (F.ev rfl)) fun a F => ?_
  refine lx_nil ?_
  repeat (first | refine ex_then ?_ | refine ex_block ?_ | refine wp_seq ?_ | refine wp_block ?_ | refine wp_skip ?_)
  refine wp_ret ?_
  repeat (first | refine ex_thenR ?_ | refine ex_blockR ?_)
  exact sx_ret F HM (res_NI F (s := 6) (t := 7) rfl rfl rfl (HM.get 0 rfl))

set_option maxRecDepth 100000 in
set_option maxHeartbeats 8000000 in
theorem s_inv (P Q G H A V : Nat) (er : Int)
    (c1 : ∀ w, Calls Try.prog 36 #[num A, num Q] w fun e w' => e = .returned (.tuple #[num V, .int .i64 er]) ∧ Below w.heap.size w w')
    (w : World) : Calls Try.prog 17 #[grp P Q G H, num A] w fun e w' => e = .returned (.tuple #[num V, .int .i64 er]) ∧ Below w.heap.size w w' := by
  refine sx_enter (args := [grp P Q G H, num A]) Try.func17 rfl Try.ntmps17 (by rfl) fun a F HM => ?_
  repeat (first | refine ex_then ?_ | refine ex_block ?_ | refine wp_seq ?_ | refine wp_block ?_ | refine wp_skip ?_)
  refine wp_region_lit ?_
  refine lx_new F HM (wanted_none rfl _) rfl (by rfl) (o_boxG (F.ev rfl)) fun a w gg F HM => ?_
  refine lx_new F HM (wanted_none rfl _) rfl (by rfl) (o_boxN (F.ev rfl)) fun a w ga F HM => ?_
  refine lx_new F HM (wanted_none rfl _) rfl (by rfl) (o_allocN) fun a w go F HM => ?_
  refine lx_value (v := .int .i64 0) F (wanted_none rfl _) rfl (by rfl) (o_assign rfl) fun a F => ?_
  refine lx_nil ?_
  repeat (first | refine ex_then ?_ | refine ex_block ?_ | refine wp_seq ?_ | refine wp_block ?_ | refine wp_skip ?_)
  refine wp_region_lit ?_
  refine lx_value (v := num A) F (wanted_none rfl _) rfl (by rfl) (o_loadN (F.ev rfl) (HM.get 1 rfl)) fun a F => ?_
  refine lx_value (v := .pointer (some ⟨gg, 4, none⟩)) F (wanted_none rfl _) rfl (by rfl) (o_fieldG1 (F.ev rfl)) fun a F => ?_
  refine lx_value (v := num Q) F (wanted_none rfl _) rfl (by rfl) (o_loadG1 (F.ev rfl) (HM.get 2 rfl)) fun a F => ?_
  refine lx_call F (wanted_none rfl _) rfl (by rfl) (run_callF Try.func36 (by kernel_rfl) (by rfl) (.cons (F.ev rfl) (.cons (F.ev rfl) .nil)) _) (c1 _) fun a w z F => ?_
  replace HM := HM.on z
  clear z
  refine lx_value (v := num V) F (wanted_none rfl _) rfl (by rfl) (o_extract (F.ev rfl) rfl) fun a F => ?_
  refine lx_value (v := .int .i64 er) F (wanted_none rfl _) rfl (by rfl) (o_extract (F.ev rfl) rfl) fun a F => ?_
  refine lx_store F HM (wanted_none rfl _) rfl (k := 0) rfl (o_storeN (F.ev rfl) (F.ev rfl) (HM.get 0 rfl)) (M2 := [(go, 24, ncs V), (ga, 24, ncs A), (gg, 35, gcs P Q G H)]) rfl fun w HM => ?_
  refine lx_value (v := .int .i64 er) F (wanted_none rfl _) rfl (by rfl) (o_assign (F.ev rfl)) fun a F => ?_
  refine lx_nil ?_
  repeat (first | refine ex_then ?_ | refine ex_block ?_ | refine wp_seq ?_ | refine wp_block ?_ | refine wp_skip ?_)
  refine wp_ret ?_
  repeat (first | refine ex_thenR ?_ | refine ex_blockR ?_)
  exact sx_ret F HM (res_NI F (s := 4) (t := 5) rfl rfl rfl (HM.get 0 rfl))

theorem sadd_yes (P Q G H A B : Nat) (hQ : Q < 2 ^ 256) (h1 : 1 < Q) (hA : A < Q) (hB : B < Q) : ∀ w, Calls Try.prog 14 #[grp P Q G H, num A, num B] w fun e w' => e = .returned (.tuple #[num ((A + B) % Q), .int .i64 0]) ∧ Below w.heap.size w w' := fun w => s_add P Q G H A B _ _ (madd_yes A B Q hQ h1 hA hB) w
theorem sadd_no (P Q G H A B : Nat) (hQ : Q < 2 ^ 256) (hA : A < 2 ^ 256) (hB : B < 2 ^ 256) (h : ¬ (1 < Q ∧ A < Q ∧ B < Q)) : ∀ w, Calls Try.prog 14 #[grp P Q G H, num A, num B] w fun e w' => e = .returned (.tuple #[num 0, .int .i64 1]) ∧ Below w.heap.size w w' := fun w => s_add P Q G H A B _ _ (madd_no A B Q hA hB hQ h) w
theorem ssub_yes (P Q G H A B : Nat) (hQ : Q < 2 ^ 256) (h1 : 1 < Q) (hA : A < Q) (hB : B < Q) : ∀ w, Calls Try.prog 15 #[grp P Q G H, num A, num B] w fun e w' => e = .returned (.tuple #[num ((A + Q - B) % Q), .int .i64 0]) ∧ Below w.heap.size w w' := fun w => s_sub P Q G H A B _ _ (msub_yes A B Q hQ h1 hA hB) w
theorem ssub_no (P Q G H A B : Nat) (hQ : Q < 2 ^ 256) (hA : A < 2 ^ 256) (hB : B < 2 ^ 256) (h : ¬ (1 < Q ∧ A < Q ∧ B < Q)) : ∀ w, Calls Try.prog 15 #[grp P Q G H, num A, num B] w fun e w' => e = .returned (.tuple #[num 0, .int .i64 1]) ∧ Below w.heap.size w w' := fun w => s_sub P Q G H A B _ _ (msub_no A B Q hA hB hQ h) w
theorem smul_yes (P Q G H A B : Nat) (hQ : Q < 2 ^ 256) (h1 : 1 < Q) (hA : A < Q) (hB : B < Q) : ∀ w, Calls Try.prog 16 #[grp P Q G H, num A, num B] w fun e w' => e = .returned (.tuple #[num (A * B % Q), .int .i64 0]) ∧ Below w.heap.size w w' := fun w => s_mul P Q G H A B _ _ (mmul_yes A B Q hQ h1 hA hB) w
theorem sinv_yes (P Q G H A V : Nat) (hQ : Q < 2 ^ 256) (h1 : 1 < Q) (hA : A < Q) (hV : V < Q) (hAV : A * V % Q = 1) : ∀ w, Calls Try.prog 17 #[grp P Q G H, num A] w fun e w' => e = .returned (.tuple #[num V, .int .i64 0]) ∧ Below w.heap.size w w' := fun w => s_inv P Q G H A V _ (minv_yes A Q V hQ h1 hA hV hAV) w
theorem sinv_none (P Q G H A : Nat) (hQ : Q < 2 ^ 256) (h1 : 1 < Q) (hA : A < Q) (hg : Nat.gcd A Q ≠ 1) : ∀ w, Calls Try.prog 17 #[grp P Q G H, num A] w fun e w' => e = .returned (.tuple #[num 0, .int .i64 7]) ∧ Below w.heap.size w w' := fun w => s_inv P Q G H A 0 _ (minv_none A Q hQ h1 hA hg) w
theorem sinv_no (P Q G H A : Nat) (hQ : Q < 2 ^ 256) (hA : A < 2 ^ 256) (h : ¬ (1 < Q ∧ A < Q)) : ∀ w, Calls Try.prog 17 #[grp P Q G H, num A] w fun e w' => e = .returned (.tuple #[num 0, .int .i64 1]) ∧ Below w.heap.size w w' := fun w => s_inv P Q G H A 0 _ (minv_no A Q hA hQ h) w
end Go.Proofs.Ytodlpmepoakdlaa
