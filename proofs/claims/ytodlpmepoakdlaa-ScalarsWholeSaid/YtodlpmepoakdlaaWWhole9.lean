/-
  ScalarsWhole, ScalarsNext: walked.
-/
import Derived.Deep.Cut
import Derived.Test.YtodlpmepoakdlaaWAlive9
import Derived.Test.YtodlpmepoakdlaaWShort
namespace Go.Proofs.Ytodlpmepoakdlaa
set_option maxRecDepth 100000
open Go.RowKit
set_option linter.unusedSimpArgs false
set_option linter.unusedVariables false
attribute [local go_sem ↓] Go.wp_at_zero Go.wp_at_succ

section
variable {x y : Operand} {dst : Option Tmp} {ty : TypeId} {pos : String} {after : Array Edge} {guard : Option (Nat × Bool)} {ρ : Operand → Value} {w : World}
theorem o_convI {n : Int} (hn : IntKind.i64.wrap n = n) (hx : ρ x = .int .i32 n) : (execOp ρ ⟨dst, .convert 21 2 x, ty, pos, after, guard⟩).run Try.prog w = .ok (.value (.int .i64 n)) w := by
  simp [execOp, hx, go_sem, hn]
end
theorem sof_int {Q : Nat} (h : 1 < Q) (n : Int) : ((sofN Q n : Nat) : Int) = n % (Q : Int) := by
  unfold sofN; rw [if_pos h]
  exact Int.toNat_of_nonneg (Int.emod_nonneg _ (by omega))
theorem sof_lt {Q : Nat} (h : 1 < Q) (n : Int) : sofN Q n < Q := by
  have h1 := sof_int h n
  have h2 := Int.emod_lt_of_pos n (show (0 : Int) < Q by omega)
  omega
theorem sof_eq {Q : Nat} (h : 1 < Q) {m : Nat} {n : Int} (e : ((m : Nat) : Int) % (Q : Int) = n % (Q : Int)) : m % Q = sofN Q n := by
  have := sof_int h n
  have h2 : ((m % Q : Nat) : Int) = (m : Int) % (Q : Int) := rfl
  omega
theorem sof_add {Q : Nat} (h : 1 < Q) (m n : Int) : (sofN Q m + sofN Q n) % Q = sofN Q (m + n) := by
  refine sof_eq h ?_
  rw [Int.natCast_add, sof_int h, sof_int h, ← Int.add_emod]
theorem sof_sub {Q : Nat} (h : 1 < Q) (m n : Int) : (sofN Q m + Q - sofN Q n) % Q = sofN Q (m - n) := by
  refine sof_eq h ?_
  have h1 := sof_lt h n
  rw [Int.natCast_sub (by omega), Int.natCast_add, sof_int h, sof_int h, Int.sub_emod, Int.add_emod_right, ← Int.sub_emod, Int.emod_sub_emod, Int.sub_emod m, Int.emod_emod, ← Int.sub_emod]
theorem sof_mul {Q : Nat} (h : 1 < Q) (m n : Int) : sofN Q m * sofN Q n % Q = sofN Q (m * n) := by
  refine sof_eq h ?_
  rw [Int.natCast_mul, sof_int h, sof_int h, ← Int.mul_emod]
theorem sof_one {Q : Nat} (h : 1 < Q) : sofN Q 1 = 1 := by
  have := sof_int h 1
  rw [Int.emod_eq_of_lt (by omega) (by omega)] at this
  omega
theorem sof_zero {Q : Nat} (h : 1 < Q) : sofN Q 0 = 0 := by
  have := sof_int h 0
  rw [Int.zero_emod] at this
  omega
set_option maxRecDepth 100000 in
set_option maxHeartbeats 8000000 in
theorem whole_low (P Q G H : Nat) (ia ib : Int)
    (hQ : Q < 2 ^ 256)
    (hk : cmpN Q 1 ≤ 0)
    (w : World) : Calls Try.prog 5 #[grp P Q G H, .int .i32 ia, .int .i32 ib] w fun e w' => e = .returned (.bool true) ∧ Below w.heap.size w w' := by
  refine sx_enter (args := [grp P Q G H, .int .i32 ia, .int .i32 ib]) Try.func5 rfl Try.ntmps5 (by rfl) fun a F HM => ?_
  repeat (first | refine ex_then ?_ | refine ex_block ?_ | refine wp_seq ?_ | refine wp_block ?_ | refine wp_skip ?_)
  refine wp_region_lit ?_
  refine lx_new F HM (wanted_none rfl _) rfl (by rfl) (o_boxG (F.ev rfl)) fun a w gg F HM => ?_
  refine lx_value (v := .bool false) F (wanted_none rfl _) rfl (by rfl) (o_assign rfl) fun a F => ?_
  refine lx_nil ?_
  repeat (first | refine ex_then ?_ | refine ex_block ?_ | refine wp_seq ?_ | refine wp_block ?_ | refine wp_skip ?_)
  try simp only [List.append_eq, List.cons_append, List.nil_append]
  refine sx_drawn [⟨0, 17, [], .val (.pointer (some ⟨gg, 4, none⟩)), true⟩,
      ⟨1, 18, [0], .val (num Q), true⟩,
      ⟨2, 19, [1], .val (num 1), false⟩,
      ⟨3, 20, [1, 2], .val (.int .i64 (cmpN Q 1)), false⟩,
      ⟨4, 21, [3], .val (.bool true), true⟩] 0 F HM (by kernel_rfl) (by rfl) (by rfl) ?_ ?_ ?_ ?_ ?_ ?_ ?_
  · kernel_rfl
  · exact of_decide_eq_true (by kernel_rfl)
  · exact all_cons ⟨_, by rfl, by rfl⟩ (all_cons ⟨_, by rfl, by rfl⟩ (all_cons ⟨_, by rfl, by rfl⟩ (all_cons ⟨_, by rfl, by rfl⟩ (all_cons ⟨_, by rfl, by rfl⟩ (all_nil)))))
  · kernel_rfl
  · refine all_cons ?_ (all_cons ?_ (all_cons ?_ (all_cons ?_ (all_cons ?_ (all_nil)))))
    · exact coreS _ _ _ _ _ _ _ (by rfl) (by rfl) (wants_none) (fun ρ w kn hs => o_fieldG1 (kn _ _ (F.old (by rfl) rfl)))
    · exact coreS _ _ _ _ _ _ _ (by rfl) (by rfl) (wants_none) (fun ρ w kn hs => o_loadG1 (kn _ _ (known_core 0 17 _ _ (of_decide_eq_true (by rfl)) (by rfl) (by rfl) (by rfl))) (hs.get 0 rfl))
    · exact core_pureAs _ (by rfl)
    · exact core_pureAs _ (by rfl)
    · exact coreS _ _ _ _ _ _ _ (by rfl) (by rfl) (wants_none) (fun ρ w kn hs => o_bin (u := .int .i64 (cmpN Q 1)) (v := .int .i64 0) (fun ρ hx hy => by simp only [execOp, hx, hy]; simp [go_sem]; exact hk) (kn _ _ (known_core 3 20 _ _ (of_decide_eq_true (by rfl)) (by rfl) (by rfl) (by rfl))) (kn _ _ (known_const _)))
  · refine all_cons ?_ (all_cons ?_ (all_cons ?_ (all_cons ?_ (all_cons ?_ (all_nil)))))
    · exact core_stepAs _ (by rfl)
    · exact core_stepAs _ (by rfl)
    · exact fun _ => coreG_call _ 25 _ _ [.const (.int .u64 1)] _ _ _ _ _ _ _ (by rfl) Try.func25 (by kernel_rfl) (by rfl) (by rfl) (wants_none) (.cons (known_const _) .nil) ((fun w => of9_any 1 (by decide) w))
    · exact fun _ => coreG_call _ 24 _ _ [.tmp 18, .tmp 19] _ _ _ _ _ _ _ (by rfl) Try.func24 (by kernel_rfl) (by rfl) (by rfl) (wants_none) (.cons (known_core 1 18 _ _ (of_decide_eq_true (by rfl)) (by rfl) (by rfl) (by rfl)) (.cons (known_core 2 19 _ _ (of_decide_eq_true (by rfl)) (by rfl) (by rfl) (by rfl)) .nil)) ((fun w => cmp_any Q 1 hQ (by decide) w))
    · exact core_stepAs _ (by rfl)
  intro gs rs a w hgs hrs F HM
  obtain rfl := nl0 rs hrs
  clear hrs
  obtain rfl := nl0 gs hgs
  clear hgs
  refine sx_done (by kernel_rfl) ?_ _
  repeat (first | refine ex_then ?_ | refine ex_block ?_ | refine wp_seq ?_ | refine wp_block ?_ | refine wp_skip ?_)
  refine wp_cond_true (F.ev rfl) ?_
  repeat (first | refine ex_then ?_ | refine ex_block ?_ | refine wp_seq ?_ | refine wp_block ?_ | refine wp_skip ?_)
  refine wp_region_lit ?_
  refine lx_call F (wanted_none rfl _) rfl (by rfl) (run_callF Try.func26 (by kernel_rfl) (by rfl) .nil _) (alive9_any _) fun a w z F => ?_
  replace HM := HM.on z
  clear z
  refine lx_value (v := .bool true) F (wanted_none rfl _) rfl (by rfl) (o_assign (F.ev rfl)) fun a F => ?_
  refine lx_nil ?_
  repeat (first | refine ex_then ?_ | refine ex_block ?_ | refine wp_seq ?_ | refine wp_block ?_ | refine wp_skip ?_)
  refine wp_ret ?_
  repeat (first | refine ex_thenR ?_ | refine ex_blockR ?_)
  exact sx_ret F HM (res_tmp F rfl (s := 6) rfl)

set_option maxRecDepth 100000 in
set_option maxHeartbeats 8000000 in
theorem whole_w (P Q G H x y s d p : Nat) (ia ib : Int)
    (hQ : Q < 2 ^ 256)
    (hk : 0 < cmpN Q 1)
    (wa : IntKind.i64.wrap ia = ia)
    (wb : IntKind.i64.wrap ib = ib)
    (wadd : IntKind.i64.wrap (ia + ib) = ia + ib)
    (wsub : IntKind.i64.wrap (ia - ib) = ia - ib)
    (wmul : IntKind.i64.wrap (ia * ib) = ia * ib)
    (sa : ∀ w, Calls Try.prog 22 #[grp P Q G H, .int .i64 ia] w fun e w' => e = .returned (num x) ∧ Below w.heap.size w w')
    (sb : ∀ w, Calls Try.prog 22 #[grp P Q G H, .int .i64 ib] w fun e w' => e = .returned (num y) ∧ Below w.heap.size w w')
    (c1 : ∀ w, Calls Try.prog 14 #[grp P Q G H, num x, num y] w fun e w' => e = .returned (.tuple #[num s, .int .i64 0]) ∧ Below w.heap.size w w')
    (c2 : ∀ w, Calls Try.prog 15 #[grp P Q G H, num x, num y] w fun e w' => e = .returned (.tuple #[num d, .int .i64 0]) ∧ Below w.heap.size w w')
    (c3 : ∀ w, Calls Try.prog 16 #[grp P Q G H, num x, num y] w fun e w' => e = .returned (.tuple #[num p, .int .i64 0]) ∧ Below w.heap.size w w')
    (o1 : ∀ w, Calls Try.prog 22 #[grp P Q G H, .int .i64 (ia + ib)] w fun e w' => e = .returned (num s) ∧ Below w.heap.size w w')
    (o2 : ∀ w, Calls Try.prog 22 #[grp P Q G H, .int .i64 (ia - ib)] w fun e w' => e = .returned (num d) ∧ Below w.heap.size w w')
    (o3 : ∀ w, Calls Try.prog 22 #[grp P Q G H, .int .i64 (ia * ib)] w fun e w' => e = .returned (num p) ∧ Below w.heap.size w w')
    (ck : ∀ w, Calls Try.prog 24 #[num x, num Q] w fun e w' => e = .returned (.int .i64 (cmpN x Q)) ∧ Below w.heap.size w w')
    (hxQ : cmpN x Q < 0)
    (w : World) : Calls Try.prog 5 #[grp P Q G H, .int .i32 ia, .int .i32 ib] w fun e w' => e = .returned (.bool true) ∧ Below w.heap.size w w' := by
  refine sx_enter (args := [grp P Q G H, .int .i32 ia, .int .i32 ib]) Try.func5 rfl Try.ntmps5 (by rfl) fun a F HM => ?_
  repeat (first | refine ex_then ?_ | refine ex_block ?_ | refine wp_seq ?_ | refine wp_block ?_ | refine wp_skip ?_)
  refine wp_region_lit ?_
  refine lx_new F HM (wanted_none rfl _) rfl (by rfl) (o_boxG (F.ev rfl)) fun a w gg F HM => ?_
  refine lx_value (v := .bool false) F (wanted_none rfl _) rfl (by rfl) (o_assign rfl) fun a F => ?_
  refine lx_nil ?_
  repeat (first | refine ex_then ?_ | refine ex_block ?_ | refine wp_seq ?_ | refine wp_block ?_ | refine wp_skip ?_)
  try simp only [List.append_eq, List.cons_append, List.nil_append]
  refine sx_drawn [⟨0, 17, [], .val (.pointer (some ⟨gg, 4, none⟩)), true⟩,
      ⟨1, 18, [0], .val (num Q), true⟩,
      ⟨2, 19, [1], .val (num 1), false⟩,
      ⟨3, 20, [1, 2], .val (.int .i64 (cmpN Q 1)), false⟩,
      ⟨4, 21, [3], .val (.bool false), true⟩] 0 F HM (by kernel_rfl) (by rfl) (by rfl) ?_ ?_ ?_ ?_ ?_ ?_ ?_
  · kernel_rfl
  · exact of_decide_eq_true (by kernel_rfl)
  · exact all_cons ⟨_, by rfl, by rfl⟩ (all_cons ⟨_, by rfl, by rfl⟩ (all_cons ⟨_, by rfl, by rfl⟩ (all_cons ⟨_, by rfl, by rfl⟩ (all_cons ⟨_, by rfl, by rfl⟩ (all_nil)))))
  · kernel_rfl
  · refine all_cons ?_ (all_cons ?_ (all_cons ?_ (all_cons ?_ (all_cons ?_ (all_nil)))))
    · exact coreS _ _ _ _ _ _ _ (by rfl) (by rfl) (wants_none) (fun ρ w kn hs => o_fieldG1 (kn _ _ (F.old (by rfl) rfl)))
    · exact coreS _ _ _ _ _ _ _ (by rfl) (by rfl) (wants_none) (fun ρ w kn hs => o_loadG1 (kn _ _ (known_core 0 17 _ _ (of_decide_eq_true (by rfl)) (by rfl) (by rfl) (by rfl))) (hs.get 0 rfl))
    · exact core_pureAs _ (by rfl)
    · exact core_pureAs _ (by rfl)
    · exact coreS _ _ _ _ _ _ _ (by rfl) (by rfl) (wants_none) (fun ρ w kn hs => o_bin (u := .int .i64 (cmpN Q 1)) (v := .int .i64 0) (fun ρ hx hy => by simp only [execOp, hx, hy]; simp [go_sem]; exact hk) (kn _ _ (known_core 3 20 _ _ (of_decide_eq_true (by rfl)) (by rfl) (by rfl) (by rfl))) (kn _ _ (known_const _)))
  · refine all_cons ?_ (all_cons ?_ (all_cons ?_ (all_cons ?_ (all_cons ?_ (all_nil)))))
    · exact core_stepAs _ (by rfl)
    · exact core_stepAs _ (by rfl)
    · exact fun _ => coreG_call _ 25 _ _ [.const (.int .u64 1)] _ _ _ _ _ _ _ (by rfl) Try.func25 (by kernel_rfl) (by rfl) (by rfl) (wants_none) (.cons (known_const _) .nil) ((fun w => of9_any 1 (by decide) w))
    · exact fun _ => coreG_call _ 24 _ _ [.tmp 18, .tmp 19] _ _ _ _ _ _ _ (by rfl) Try.func24 (by kernel_rfl) (by rfl) (by rfl) (wants_none) (.cons (known_core 1 18 _ _ (of_decide_eq_true (by rfl)) (by rfl) (by rfl) (by rfl)) (.cons (known_core 2 19 _ _ (of_decide_eq_true (by rfl)) (by rfl) (by rfl) (by rfl)) .nil)) ((fun w => cmp_any Q 1 hQ (by decide) w))
    · exact core_stepAs _ (by rfl)
  intro gs rs a w hgs hrs F HM
  obtain rfl := nl0 rs hrs
  clear hrs
  obtain rfl := nl0 gs hgs
  clear hgs
  refine sx_done (by kernel_rfl) ?_ _
  repeat (first | refine ex_then ?_ | refine ex_block ?_ | refine wp_seq ?_ | refine wp_block ?_ | refine wp_skip ?_)
  refine wp_cond_false (F.ev rfl) ?_
  repeat (first | refine ex_then ?_ | refine ex_block ?_ | refine wp_seq ?_ | refine wp_block ?_ | refine wp_skip ?_)
  refine wp_region_lit ?_
  refine lx_value (v := .int .i32 ia) F (wanted_none rfl _) rfl (by rfl) (o_move (F.ev rfl)) fun a F => ?_
  refine lx_value (v := .int .i64 ia) F (wanted_none rfl _) rfl (by rfl) (o_convI wa (F.ev rfl)) fun a F => ?_
  refine lx_value (v := .int .i64 ia) F (wanted_none rfl _) rfl (by rfl) (o_assign (F.ev rfl)) fun a F => ?_
  refine lx_nil ?_
  repeat (first | refine ex_then ?_ | refine ex_block ?_ | refine wp_seq ?_ | refine wp_block ?_ | refine wp_skip ?_)
  refine wp_region_lit ?_
  refine lx_value (v := .int .i32 ib) F (wanted_none rfl _) rfl (by rfl) (o_move (F.ev rfl)) fun a F => ?_
  refine lx_value (v := .int .i64 ib) F (wanted_none rfl _) rfl (by rfl) (o_convI wb (F.ev rfl)) fun a F => ?_
  refine lx_value (v := .int .i64 ib) F (wanted_none rfl _) rfl (by rfl) (o_assign (F.ev rfl)) fun a F => ?_
  refine lx_nil ?_
  repeat (first | refine ex_then ?_ | refine ex_block ?_ | refine wp_seq ?_ | refine wp_block ?_ | refine wp_skip ?_)
  refine wp_region_lit ?_
  refine lx_value (v := grp P Q G H) F (wanted_none rfl _) rfl (by rfl) (o_loadG (F.ev rfl) (HM.get 0 rfl)) fun a F => ?_
  refine lx_value (v := .int .i64 ia) F (wanted_none rfl _) rfl (by rfl) (o_move (F.ev rfl)) fun a F => ?_
  refine lx_call F (wanted_none rfl _) rfl (by rfl) (run_callF Try.func22 (by kernel_rfl) (by rfl) (.cons (F.ev rfl) (.cons (F.ev rfl) .nil)) _) (sa _) fun a w z F => ?_
  replace HM := HM.on z
  clear z
  refine lx_new F HM (wanted_none rfl _) rfl (by rfl) (o_allocN) fun a w gx F HM => ?_
  refine lx_store F HM (wanted_none rfl _) rfl (k := 0) rfl (o_storeN (F.ev rfl) (F.ev rfl) (HM.get 0 rfl)) (M2 := [(gx, 24, ncs x), (gg, 35, gcs P Q G H)]) rfl fun w HM => ?_
  refine lx_nil ?_
  repeat (first | refine ex_then ?_ | refine ex_block ?_ | refine wp_seq ?_ | refine wp_block ?_ | refine wp_skip ?_)
  refine wp_region_lit ?_
  refine lx_value (v := grp P Q G H) F (wanted_none rfl _) rfl (by rfl) (o_loadG (F.ev rfl) (HM.get 1 rfl)) fun a F => ?_
  refine lx_value (v := .int .i64 ib) F (wanted_none rfl _) rfl (by rfl) (o_move (F.ev rfl)) fun a F => ?_
  refine lx_call F (wanted_none rfl _) rfl (by rfl) (run_callF Try.func22 (by kernel_rfl) (by rfl) (.cons (F.ev rfl) (.cons (F.ev rfl) .nil)) _) (sb _) fun a w z F => ?_
  replace HM := HM.on z
  clear z
  refine lx_new F HM (wanted_none rfl _) rfl (by rfl) (o_allocN) fun a w gy F HM => ?_
  refine lx_store F HM (wanted_none rfl _) rfl (k := 0) rfl (o_storeN (F.ev rfl) (F.ev rfl) (HM.get 0 rfl)) (M2 := [(gy, 24, ncs y), (gx, 24, ncs x), (gg, 35, gcs P Q G H)]) rfl fun w HM => ?_
  refine lx_nil ?_
  repeat (first | refine ex_then ?_ | refine ex_block ?_ | refine wp_seq ?_ | refine wp_block ?_ | refine wp_skip ?_)
  refine wp_region_lit ?_
  refine lx_value (v := grp P Q G H) F (wanted_none rfl _) rfl (by rfl) (o_loadG (F.ev rfl) (HM.get 2 rfl)) fun a F => ?_
  refine lx_value (v := num x) F (wanted_none rfl _) rfl (by rfl) (o_loadN (F.ev rfl) (HM.get 1 rfl)) fun a F => ?_
  refine lx_value (v := num y) F (wanted_none rfl _) rfl (by rfl) (o_loadN (F.ev rfl) (HM.get 0 rfl)) fun a F => ?_
  refine lx_call F (wanted_none rfl _) rfl (by rfl) (run_callF Try.func14 (by kernel_rfl) (by rfl) (.cons (F.ev rfl) (.cons (F.ev rfl) (.cons (F.ev rfl) .nil))) _) (c1 _) fun a w z F => ?_
  replace HM := HM.on z
  clear z
  refine lx_value (v := .tuple #[num s, .int .i64 0]) F (wanted_none rfl _) rfl (by rfl) (o_move (F.ev rfl)) fun a F => ?_
  refine lx_value (v := num s) F (wanted_none rfl _) rfl (by rfl) (o_extract (F.ev rfl) rfl) fun a F => ?_
  refine lx_value (v := .int .i64 0) F (wanted_none rfl _) rfl (by rfl) (o_extract (F.ev rfl) rfl) fun a F => ?_
  refine lx_new F HM (wanted_none rfl _) rfl (by rfl) (o_allocN) fun a w gs F HM => ?_
  refine lx_store F HM (wanted_none rfl _) rfl (k := 0) rfl (o_storeN (F.ev rfl) (F.ev rfl) (HM.get 0 rfl)) (M2 := [(gs, 24, ncs s), (gy, 24, ncs y), (gx, 24, ncs x), (gg, 35, gcs P Q G H)]) rfl fun w HM => ?_
  refine lx_value (v := .int .i64 0) F (wanted_none rfl _) rfl (by rfl) (o_assign (F.ev rfl)) fun a F => ?_
  refine lx_nil ?_
  repeat (first | refine ex_then ?_ | refine ex_block ?_ | refine wp_seq ?_ | refine wp_block ?_ | refine wp_skip ?_)
  refine wp_region_lit ?_
  refine lx_value (v := grp P Q G H) F (wanted_none rfl _) rfl (by rfl) (o_loadG (F.ev rfl) (HM.get 3 rfl)) fun a F => ?_
  refine lx_value (v := num x) F (wanted_none rfl _) rfl (by rfl) (o_loadN (F.ev rfl) (HM.get 2 rfl)) fun a F => ?_
  refine lx_value (v := num y) F (wanted_none rfl _) rfl (by rfl) (o_loadN (F.ev rfl) (HM.get 1 rfl)) fun a F => ?_
  refine lx_call F (wanted_none rfl _) rfl (by rfl) (run_callF Try.func15 (by kernel_rfl) (by rfl) (.cons (F.ev rfl) (.cons (F.ev rfl) (.cons (F.ev rfl) .nil))) _) (c2 _) fun a w z F => ?_
  replace HM := HM.on z
  clear z
  refine lx_value (v := .tuple #[num d, .int .i64 0]) F (wanted_none rfl _) rfl (by rfl) (o_move (F.ev rfl)) fun a F => ?_
  refine lx_value (v := num d) F (wanted_none rfl _) rfl (by rfl) (o_extract (F.ev rfl) rfl) fun a F => ?_
  refine lx_value (v := .int .i64 0) F (wanted_none rfl _) rfl (by rfl) (o_extract (F.ev rfl) rfl) fun a F => ?_
  refine lx_new F HM (wanted_none rfl _) rfl (by rfl) (o_allocN) fun a w gd F HM => ?_
  refine lx_store F HM (wanted_none rfl _) rfl (k := 0) rfl (o_storeN (F.ev rfl) (F.ev rfl) (HM.get 0 rfl)) (M2 := [(gd, 24, ncs d), (gs, 24, ncs s), (gy, 24, ncs y), (gx, 24, ncs x), (gg, 35, gcs P Q G H)]) rfl fun w HM => ?_
  refine lx_value (v := .int .i64 0) F (wanted_none rfl _) rfl (by rfl) (o_assign (F.ev rfl)) fun a F => ?_
  refine lx_nil ?_
  repeat (first | refine ex_then ?_ | refine ex_block ?_ | refine wp_seq ?_ | refine wp_block ?_ | refine wp_skip ?_)
  refine wp_region_lit ?_
  refine lx_value (v := grp P Q G H) F (wanted_none rfl _) rfl (by rfl) (o_loadG (F.ev rfl) (HM.get 4 rfl)) fun a F => ?_
  refine lx_value (v := num x) F (wanted_none rfl _) rfl (by rfl) (o_loadN (F.ev rfl) (HM.get 3 rfl)) fun a F => ?_
  refine lx_value (v := num y) F (wanted_none rfl _) rfl (by rfl) (o_loadN (F.ev rfl) (HM.get 2 rfl)) fun a F => ?_
  refine lx_call F (wanted_none rfl _) rfl (by rfl) (run_callF Try.func16 (by kernel_rfl) (by rfl) (.cons (F.ev rfl) (.cons (F.ev rfl) (.cons (F.ev rfl) .nil))) _) (c3 _) fun a w z F => ?_
  replace HM := HM.on z
  clear z
  refine lx_value (v := .tuple #[num p, .int .i64 0]) F (wanted_none rfl _) rfl (by rfl) (o_move (F.ev rfl)) fun a F => ?_
  refine lx_value (v := num p) F (wanted_none rfl _) rfl (by rfl) (o_extract (F.ev rfl) rfl) fun a F => ?_
  refine lx_value (v := .int .i64 0) F (wanted_none rfl _) rfl (by rfl) (o_extract (F.ev rfl) rfl) fun a F => ?_
  refine lx_new F HM (wanted_none rfl _) rfl (by rfl) (o_allocN) fun a w gp F HM => ?_
  refine lx_store F HM (wanted_none rfl _) rfl (k := 0) rfl (o_storeN (F.ev rfl) (F.ev rfl) (HM.get 0 rfl)) (M2 := [(gp, 24, ncs p), (gd, 24, ncs d), (gs, 24, ncs s), (gy, 24, ncs y), (gx, 24, ncs x), (gg, 35, gcs P Q G H)]) rfl fun w HM => ?_
  refine lx_value (v := .int .i64 0) F (wanted_none rfl _) rfl (by rfl) (o_assign (F.ev rfl)) fun a F => ?_
  refine lx_nil ?_
  repeat (first | refine ex_then ?_ | refine ex_block ?_ | refine wp_seq ?_ | refine wp_block ?_ | refine wp_skip ?_)
  try simp only [List.append_eq, List.cons_append, List.nil_append]
  refine sx_drawn [⟨0, 54, [], .val (.bool true), false⟩,
      ⟨1, 55, [0], .val (.bool true), true⟩,
      ⟨2, 56, [1], .val (.int .i64 0), true⟩,
      ⟨3, 57, [1, 2], .val (.bool true), true⟩,
      ⟨4, 58, [1, 3], .val (.bool true), true⟩,
      ⟨5, 59, [4], .val (.bool true), true⟩,
      ⟨6, 60, [5], .val (.int .i64 0), true⟩,
      ⟨7, 61, [5, 6], .val (.bool true), true⟩,
      ⟨8, 62, [5, 7], .val (.bool true), true⟩,
      ⟨9, 63, [8], .val (.bool true), true⟩,
      ⟨10, 64, [9], .val (.int .i64 0), true⟩,
      ⟨11, 65, [9, 10], .val (.bool true), true⟩,
      ⟨12, 66, [9, 11], .val (.bool true), true⟩,
      ⟨13, 67, [12], .val (.bool true), true⟩,
      ⟨14, 68, [13], .val (num s), true⟩,
      ⟨15, 69, [13, 14], .val (grp P Q G H), true⟩,
      ⟨16, 70, [13, 15], .val (.int .i64 ia), true⟩,
      ⟨17, 71, [13, 16], .val (.int .i64 ib), true⟩,
      ⟨18, 72, [13, 16, 17], .val (.int .i64 (ia + ib)), true⟩,
      ⟨19, 73, [13, 15, 18], .val (num s), false⟩,
      ⟨20, 74, [13, 14, 19], .val (.bool true), true⟩,
      ⟨21, 75, [13, 20], .val (.bool true), true⟩,
      ⟨22, 76, [21], .val (.bool true), true⟩,
      ⟨23, 77, [22], .val (num d), true⟩,
      ⟨24, 78, [22, 23], .val (grp P Q G H), true⟩,
      ⟨25, 79, [22, 24], .val (.int .i64 ia), true⟩,
      ⟨26, 80, [22, 25], .val (.int .i64 ib), true⟩,
      ⟨27, 81, [22, 25, 26], .val (.int .i64 (ia - ib)), true⟩,
      ⟨28, 82, [22, 24, 27], .val (num d), false⟩,
      ⟨29, 83, [22, 23, 28], .val (.bool true), true⟩,
      ⟨30, 84, [22, 29], .val (.bool true), true⟩,
      ⟨31, 85, [30], .val (.bool true), true⟩,
      ⟨32, 86, [31], .val (num p), true⟩,
      ⟨33, 87, [31, 32], .val (grp P Q G H), true⟩,
      ⟨34, 88, [31, 33], .val (.int .i64 ia), true⟩,
      ⟨35, 89, [31, 34], .val (.int .i64 ib), true⟩,
      ⟨36, 90, [31, 34, 35], .val (.int .i64 (ia * ib)), true⟩,
      ⟨37, 91, [31, 33, 36], .val (num p), false⟩,
      ⟨38, 92, [31, 32, 37], .val (.bool true), true⟩,
      ⟨39, 93, [31, 38], .val (.bool true), true⟩,
      ⟨40, 94, [39], .val (.bool true), true⟩,
      ⟨41, 95, [40], .val (num x), true⟩,
      ⟨42, 96, [40, 41], .val (.pointer (some ⟨gg, 4, none⟩)), true⟩,
      ⟨43, 97, [40, 42], .val (num Q), true⟩,
      ⟨44, 98, [40, 41, 43], .val (.int .i64 (cmpN x Q)), false⟩,
      ⟨45, 99, [40, 44], .val (.bool true), true⟩,
      ⟨46, 100, [40, 45], .val (.bool true), true⟩] 1 F HM (by kernel_rfl) (by rfl) (by rfl) ?_ ?_ ?_ ?_ ?_ ?_ ?_
  · kernel_rfl
  · exact of_decide_eq_true (by kernel_rfl)
  · exact all_cons ⟨_, by rfl, by rfl⟩ (all_cons ⟨_, by rfl, by rfl⟩ (all_cons ⟨_, by rfl, by rfl⟩ (all_cons ⟨_, by rfl, by rfl⟩ (all_cons ⟨_, by rfl, by rfl⟩ (all_cons ⟨_, by rfl, by rfl⟩ (all_cons ⟨_, by rfl, by rfl⟩ (all_cons ⟨_, by rfl, by rfl⟩ (all_cons ⟨_, by rfl, by rfl⟩ (all_cons ⟨_, by rfl, by rfl⟩ (all_cons ⟨_, by rfl, by rfl⟩ (all_cons ⟨_, by rfl, by rfl⟩ (all_cons ⟨_, by rfl, by rfl⟩ (all_cons ⟨_, by rfl, by rfl⟩ (all_cons ⟨_, by rfl, by rfl⟩ (all_cons ⟨_, by rfl, by rfl⟩ (all_cons ⟨_, by rfl, by rfl⟩ (all_cons ⟨_, by rfl, by rfl⟩ (all_cons ⟨_, by rfl, by rfl⟩ (all_cons ⟨_, by rfl, by rfl⟩ (all_cons ⟨_, by rfl, by rfl⟩ (all_cons ⟨_, by rfl, by rfl⟩ (all_cons ⟨_, by rfl, by rfl⟩ (all_cons ⟨_, by rfl, by rfl⟩ (all_cons ⟨_, by rfl, by rfl⟩ (all_cons ⟨_, by rfl, by rfl⟩ (all_cons ⟨_, by rfl, by rfl⟩ (all_cons ⟨_, by rfl, by rfl⟩ (all_cons ⟨_, by rfl, by rfl⟩ (all_cons ⟨_, by rfl, by rfl⟩ (all_cons ⟨_, by rfl, by rfl⟩ (all_cons ⟨_, by rfl, by rfl⟩ (all_cons ⟨_, by rfl, by rfl⟩ (all_cons ⟨_, by rfl, by rfl⟩ (all_cons ⟨_, by rfl, by rfl⟩ (all_cons ⟨_, by rfl, by rfl⟩ (all_cons ⟨_, by rfl, by rfl⟩ (all_cons ⟨_, by rfl, by rfl⟩ (all_cons ⟨_, by rfl, by rfl⟩ (all_cons ⟨_, by rfl, by rfl⟩ (all_cons ⟨_, by rfl, by rfl⟩ (all_cons ⟨_, by rfl, by rfl⟩ (all_cons ⟨_, by rfl, by rfl⟩ (all_cons ⟨_, by rfl, by rfl⟩ (all_cons ⟨_, by rfl, by rfl⟩ (all_cons ⟨_, by rfl, by rfl⟩ (all_cons ⟨_, by rfl, by rfl⟩ (all_nil)))))))))))))))))))))))))))))))))))))))))))))))
  · kernel_rfl
  · refine all_cons ?_ (all_cons ?_ (all_cons ?_ (all_cons ?_ (all_cons ?_ (all_cons ?_ (all_cons ?_ (all_cons ?_ (all_cons ?_ (all_cons ?_ (all_cons ?_ (all_cons ?_ (all_cons ?_ (all_cons ?_ (all_cons ?_ (all_cons ?_ (all_cons ?_ (all_cons ?_ (all_cons ?_ (all_cons ?_ (all_cons ?_ (all_cons ?_ (all_cons ?_ (all_cons ?_ (all_cons ?_ (all_cons ?_ (all_cons ?_ (all_cons ?_ (all_cons ?_ (all_cons ?_ (all_cons ?_ (all_cons ?_ (all_cons ?_ (all_cons ?_ (all_cons ?_ (all_cons ?_ (all_cons ?_ (all_cons ?_ (all_cons ?_ (all_cons ?_ (all_cons ?_ (all_cons ?_ (all_cons ?_ (all_cons ?_ (all_cons ?_ (all_cons ?_ (all_cons ?_ (all_nil)))))))))))))))))))))))))))))))))))))))))))))))
    · exact core_pureAs _ (by rfl)
    · exact coreS _ _ _ _ _ _ _ (by rfl) (by rfl) (wants_none) (fun ρ w kn hs => o_move (kn _ _ (known_core 0 54 _ _ (of_decide_eq_true (by rfl)) (by rfl) (by rfl) (by rfl))))
    · exact coreS _ _ _ _ _ _ _ (by rfl) (by rfl) (wants_core 1 55 1 _ _ _ (by rfl) (by rfl) (by rfl) (known_core 1 55 _ _ (of_decide_eq_true (by rfl)) (by rfl) (by rfl) (by rfl)) _ (by rfl)) (fun ρ w kn hs => o_move (kn _ _ (F.old (by rfl) rfl)))
    · exact coreS _ _ _ _ _ _ _ (by rfl) (by rfl) (wants_core 1 55 1 _ _ _ (by rfl) (by rfl) (by rfl) (known_core 1 55 _ _ (of_decide_eq_true (by rfl)) (by rfl) (by rfl) (by rfl)) _ (by rfl)) (fun ρ w kn hs => o_bin (u := .int .i64 0) (v := .int .i64 0) (fun ρ hx hy => by simp only [execOp, hx, hy]; simp [go_sem]) (kn _ _ (known_core 2 56 _ _ (of_decide_eq_true (by rfl)) (by rfl) (by rfl) (by rfl))) (kn _ _ (known_const _)))
    · exact coreS _ _ _ _ _ _ _ (by rfl) (by rfl) (wants_none) (fun ρ w kn hs => o_pick (b := true) (r := .bool true) (kn _ _ (known_core 1 55 _ _ (of_decide_eq_true (by rfl)) (by rfl) (by rfl) (by rfl))) (kn _ _ (known_core 3 57 _ _ (of_decide_eq_true (by rfl)) (by rfl) (by rfl) (by rfl))) (kn _ _ (known_const _)) rfl)
    · exact coreS _ _ _ _ _ _ _ (by rfl) (by rfl) (wants_none) (fun ρ w kn hs => o_move (kn _ _ (known_core 4 58 _ _ (of_decide_eq_true (by rfl)) (by rfl) (by rfl) (by rfl))))
    · exact coreS _ _ _ _ _ _ _ (by rfl) (by rfl) (wants_core 5 59 5 _ _ _ (by rfl) (by rfl) (by rfl) (known_core 5 59 _ _ (of_decide_eq_true (by rfl)) (by rfl) (by rfl) (by rfl)) _ (by rfl)) (fun ρ w kn hs => o_move (kn _ _ (F.old (by rfl) rfl)))
    · exact coreS _ _ _ _ _ _ _ (by rfl) (by rfl) (wants_core 5 59 5 _ _ _ (by rfl) (by rfl) (by rfl) (known_core 5 59 _ _ (of_decide_eq_true (by rfl)) (by rfl) (by rfl) (by rfl)) _ (by rfl)) (fun ρ w kn hs => o_bin (u := .int .i64 0) (v := .int .i64 0) (fun ρ hx hy => by simp only [execOp, hx, hy]; simp [go_sem]) (kn _ _ (known_core 6 60 _ _ (of_decide_eq_true (by rfl)) (by rfl) (by rfl) (by rfl))) (kn _ _ (known_const _)))
    · exact coreS _ _ _ _ _ _ _ (by rfl) (by rfl) (wants_none) (fun ρ w kn hs => o_pick (b := true) (r := .bool true) (kn _ _ (known_core 5 59 _ _ (of_decide_eq_true (by rfl)) (by rfl) (by rfl) (by rfl))) (kn _ _ (known_core 7 61 _ _ (of_decide_eq_true (by rfl)) (by rfl) (by rfl) (by rfl))) (kn _ _ (known_const _)) rfl)
    · exact coreS _ _ _ _ _ _ _ (by rfl) (by rfl) (wants_none) (fun ρ w kn hs => o_move (kn _ _ (known_core 8 62 _ _ (of_decide_eq_true (by rfl)) (by rfl) (by rfl) (by rfl))))
    · exact coreS _ _ _ _ _ _ _ (by rfl) (by rfl) (wants_core 9 63 9 _ _ _ (by rfl) (by rfl) (by rfl) (known_core 9 63 _ _ (of_decide_eq_true (by rfl)) (by rfl) (by rfl) (by rfl)) _ (by rfl)) (fun ρ w kn hs => o_move (kn _ _ (F.old (by rfl) rfl)))
    · exact coreS _ _ _ _ _ _ _ (by rfl) (by rfl) (wants_core 9 63 9 _ _ _ (by rfl) (by rfl) (by rfl) (known_core 9 63 _ _ (of_decide_eq_true (by rfl)) (by rfl) (by rfl) (by rfl)) _ (by rfl)) (fun ρ w kn hs => o_bin (u := .int .i64 0) (v := .int .i64 0) (fun ρ hx hy => by simp only [execOp, hx, hy]; simp [go_sem]) (kn _ _ (known_core 10 64 _ _ (of_decide_eq_true (by rfl)) (by rfl) (by rfl) (by rfl))) (kn _ _ (known_const _)))
    · exact coreS _ _ _ _ _ _ _ (by rfl) (by rfl) (wants_none) (fun ρ w kn hs => o_pick (b := true) (r := .bool true) (kn _ _ (known_core 9 63 _ _ (of_decide_eq_true (by rfl)) (by rfl) (by rfl) (by rfl))) (kn _ _ (known_core 11 65 _ _ (of_decide_eq_true (by rfl)) (by rfl) (by rfl) (by rfl))) (kn _ _ (known_const _)) rfl)
    · exact coreS _ _ _ _ _ _ _ (by rfl) (by rfl) (wants_none) (fun ρ w kn hs => o_move (kn _ _ (known_core 12 66 _ _ (of_decide_eq_true (by rfl)) (by rfl) (by rfl) (by rfl))))
    · exact coreS _ _ _ _ _ _ _ (by rfl) (by rfl) (wants_core 13 67 13 _ _ _ (by rfl) (by rfl) (by rfl) (known_core 13 67 _ _ (of_decide_eq_true (by rfl)) (by rfl) (by rfl) (by rfl)) _ (by rfl)) (fun ρ w kn hs => o_loadN (kn _ _ (F.old (by rfl) rfl)) (hs.get 2 rfl))
    · exact coreS _ _ _ _ _ _ _ (by rfl) (by rfl) (wants_core 13 67 13 _ _ _ (by rfl) (by rfl) (by rfl) (known_core 13 67 _ _ (of_decide_eq_true (by rfl)) (by rfl) (by rfl) (by rfl)) _ (by rfl)) (fun ρ w kn hs => o_loadG (kn _ _ (F.old (by rfl) rfl)) (hs.get 5 rfl))
    · exact coreS _ _ _ _ _ _ _ (by rfl) (by rfl) (wants_core 13 67 13 _ _ _ (by rfl) (by rfl) (by rfl) (known_core 13 67 _ _ (of_decide_eq_true (by rfl)) (by rfl) (by rfl) (by rfl)) _ (by rfl)) (fun ρ w kn hs => o_move (kn _ _ (F.old (by rfl) rfl)))
    · exact coreS _ _ _ _ _ _ _ (by rfl) (by rfl) (wants_core 13 67 13 _ _ _ (by rfl) (by rfl) (by rfl) (known_core 13 67 _ _ (of_decide_eq_true (by rfl)) (by rfl) (by rfl) (by rfl)) _ (by rfl)) (fun ρ w kn hs => o_move (kn _ _ (F.old (by rfl) rfl)))
    · exact coreS _ _ _ _ _ _ _ (by rfl) (by rfl) (wants_core 13 67 13 _ _ _ (by rfl) (by rfl) (by rfl) (known_core 13 67 _ _ (of_decide_eq_true (by rfl)) (by rfl) (by rfl) (by rfl)) _ (by rfl)) (fun ρ w kn hs => o_bin2 (n := ia) (m := ib) (k := ia + ib) (fun ρ hx hy => by simp only [execOp, hx, hy]; simp [go_sem]; exact wadd) (kn _ _ (known_core 16 70 _ _ (of_decide_eq_true (by rfl)) (by rfl) (by rfl) (by rfl))) (kn _ _ (known_core 17 71 _ _ (of_decide_eq_true (by rfl)) (by rfl) (by rfl) (by rfl))))
    · exact core_pureAs _ (by rfl)
    · exact coreS _ _ _ _ _ _ _ (by rfl) (by rfl) (wants_core 13 67 13 _ _ _ (by rfl) (by rfl) (by rfl) (known_core 13 67 _ _ (of_decide_eq_true (by rfl)) (by rfl) (by rfl) (by rfl)) _ (by rfl)) (fun ρ w kn hs => o_eqlS (kn _ _ (known_core 14 68 _ _ (of_decide_eq_true (by rfl)) (by rfl) (by rfl) (by rfl))) (kn _ _ (known_core 19 73 _ _ (of_decide_eq_true (by rfl)) (by rfl) (by rfl) (by rfl))))
    · exact coreS _ _ _ _ _ _ _ (by rfl) (by rfl) (wants_none) (fun ρ w kn hs => o_pick (b := true) (r := .bool true) (kn _ _ (known_core 13 67 _ _ (of_decide_eq_true (by rfl)) (by rfl) (by rfl) (by rfl))) (kn _ _ (known_core 20 74 _ _ (of_decide_eq_true (by rfl)) (by rfl) (by rfl) (by rfl))) (kn _ _ (known_const _)) rfl)
    · exact coreS _ _ _ _ _ _ _ (by rfl) (by rfl) (wants_none) (fun ρ w kn hs => o_move (kn _ _ (known_core 21 75 _ _ (of_decide_eq_true (by rfl)) (by rfl) (by rfl) (by rfl))))
    · exact coreS _ _ _ _ _ _ _ (by rfl) (by rfl) (wants_core 22 76 22 _ _ _ (by rfl) (by rfl) (by rfl) (known_core 22 76 _ _ (of_decide_eq_true (by rfl)) (by rfl) (by rfl) (by rfl)) _ (by rfl)) (fun ρ w kn hs => o_loadN (kn _ _ (F.old (by rfl) rfl)) (hs.get 1 rfl))
    · exact coreS _ _ _ _ _ _ _ (by rfl) (by rfl) (wants_core 22 76 22 _ _ _ (by rfl) (by rfl) (by rfl) (known_core 22 76 _ _ (of_decide_eq_true (by rfl)) (by rfl) (by rfl) (by rfl)) _ (by rfl)) (fun ρ w kn hs => o_loadG (kn _ _ (F.old (by rfl) rfl)) (hs.get 5 rfl))
    · exact coreS _ _ _ _ _ _ _ (by rfl) (by rfl) (wants_core 22 76 22 _ _ _ (by rfl) (by rfl) (by rfl) (known_core 22 76 _ _ (of_decide_eq_true (by rfl)) (by rfl) (by rfl) (by rfl)) _ (by rfl)) (fun ρ w kn hs => o_move (kn _ _ (F.old (by rfl) rfl)))
    · exact coreS _ _ _ _ _ _ _ (by rfl) (by rfl) (wants_core 22 76 22 _ _ _ (by rfl) (by rfl) (by rfl) (known_core 22 76 _ _ (of_decide_eq_true (by rfl)) (by rfl) (by rfl) (by rfl)) _ (by rfl)) (fun ρ w kn hs => o_move (kn _ _ (F.old (by rfl) rfl)))
    · exact coreS _ _ _ _ _ _ _ (by rfl) (by rfl) (wants_core 22 76 22 _ _ _ (by rfl) (by rfl) (by rfl) (known_core 22 76 _ _ (of_decide_eq_true (by rfl)) (by rfl) (by rfl) (by rfl)) _ (by rfl)) (fun ρ w kn hs => o_bin2 (n := ia) (m := ib) (k := ia - ib) (fun ρ hx hy => by simp only [execOp, hx, hy]; simp [go_sem]; exact wsub) (kn _ _ (known_core 25 79 _ _ (of_decide_eq_true (by rfl)) (by rfl) (by rfl) (by rfl))) (kn _ _ (known_core 26 80 _ _ (of_decide_eq_true (by rfl)) (by rfl) (by rfl) (by rfl))))
    · exact core_pureAs _ (by rfl)
    · exact coreS _ _ _ _ _ _ _ (by rfl) (by rfl) (wants_core 22 76 22 _ _ _ (by rfl) (by rfl) (by rfl) (known_core 22 76 _ _ (of_decide_eq_true (by rfl)) (by rfl) (by rfl) (by rfl)) _ (by rfl)) (fun ρ w kn hs => o_eqlS (kn _ _ (known_core 23 77 _ _ (of_decide_eq_true (by rfl)) (by rfl) (by rfl) (by rfl))) (kn _ _ (known_core 28 82 _ _ (of_decide_eq_true (by rfl)) (by rfl) (by rfl) (by rfl))))
    · exact coreS _ _ _ _ _ _ _ (by rfl) (by rfl) (wants_none) (fun ρ w kn hs => o_pick (b := true) (r := .bool true) (kn _ _ (known_core 22 76 _ _ (of_decide_eq_true (by rfl)) (by rfl) (by rfl) (by rfl))) (kn _ _ (known_core 29 83 _ _ (of_decide_eq_true (by rfl)) (by rfl) (by rfl) (by rfl))) (kn _ _ (known_const _)) rfl)
    · exact coreS _ _ _ _ _ _ _ (by rfl) (by rfl) (wants_none) (fun ρ w kn hs => o_move (kn _ _ (known_core 30 84 _ _ (of_decide_eq_true (by rfl)) (by rfl) (by rfl) (by rfl))))
    · exact coreS _ _ _ _ _ _ _ (by rfl) (by rfl) (wants_core 31 85 31 _ _ _ (by rfl) (by rfl) (by rfl) (known_core 31 85 _ _ (of_decide_eq_true (by rfl)) (by rfl) (by rfl) (by rfl)) _ (by rfl)) (fun ρ w kn hs => o_loadN (kn _ _ (F.old (by rfl) rfl)) (hs.get 0 rfl))
    · exact coreS _ _ _ _ _ _ _ (by rfl) (by rfl) (wants_core 31 85 31 _ _ _ (by rfl) (by rfl) (by rfl) (known_core 31 85 _ _ (of_decide_eq_true (by rfl)) (by rfl) (by rfl) (by rfl)) _ (by rfl)) (fun ρ w kn hs => o_loadG (kn _ _ (F.old (by rfl) rfl)) (hs.get 5 rfl))
    · exact coreS _ _ _ _ _ _ _ (by rfl) (by rfl) (wants_core 31 85 31 _ _ _ (by rfl) (by rfl) (by rfl) (known_core 31 85 _ _ (of_decide_eq_true (by rfl)) (by rfl) (by rfl) (by rfl)) _ (by rfl)) (fun ρ w kn hs => o_move (kn _ _ (F.old (by rfl) rfl)))
    · exact coreS _ _ _ _ _ _ _ (by rfl) (by rfl) (wants_core 31 85 31 _ _ _ (by rfl) (by rfl) (by rfl) (known_core 31 85 _ _ (of_decide_eq_true (by rfl)) (by rfl) (by rfl) (by rfl)) _ (by rfl)) (fun ρ w kn hs => o_move (kn _ _ (F.old (by rfl) rfl)))
    · exact coreS _ _ _ _ _ _ _ (by rfl) (by rfl) (wants_core 31 85 31 _ _ _ (by rfl) (by rfl) (by rfl) (known_core 31 85 _ _ (of_decide_eq_true (by rfl)) (by rfl) (by rfl) (by rfl)) _ (by rfl)) (fun ρ w kn hs => o_bin2 (n := ia) (m := ib) (k := ia * ib) (fun ρ hx hy => by simp only [execOp, hx, hy]; simp [go_sem]; exact wmul) (kn _ _ (known_core 34 88 _ _ (of_decide_eq_true (by rfl)) (by rfl) (by rfl) (by rfl))) (kn _ _ (known_core 35 89 _ _ (of_decide_eq_true (by rfl)) (by rfl) (by rfl) (by rfl))))
    · exact core_pureAs _ (by rfl)
    · exact coreS _ _ _ _ _ _ _ (by rfl) (by rfl) (wants_core 31 85 31 _ _ _ (by rfl) (by rfl) (by rfl) (known_core 31 85 _ _ (of_decide_eq_true (by rfl)) (by rfl) (by rfl) (by rfl)) _ (by rfl)) (fun ρ w kn hs => o_eqlS (kn _ _ (known_core 32 86 _ _ (of_decide_eq_true (by rfl)) (by rfl) (by rfl) (by rfl))) (kn _ _ (known_core 37 91 _ _ (of_decide_eq_true (by rfl)) (by rfl) (by rfl) (by rfl))))
    · exact coreS _ _ _ _ _ _ _ (by rfl) (by rfl) (wants_none) (fun ρ w kn hs => o_pick (b := true) (r := .bool true) (kn _ _ (known_core 31 85 _ _ (of_decide_eq_true (by rfl)) (by rfl) (by rfl) (by rfl))) (kn _ _ (known_core 38 92 _ _ (of_decide_eq_true (by rfl)) (by rfl) (by rfl) (by rfl))) (kn _ _ (known_const _)) rfl)
    · exact coreS _ _ _ _ _ _ _ (by rfl) (by rfl) (wants_none) (fun ρ w kn hs => o_move (kn _ _ (known_core 39 93 _ _ (of_decide_eq_true (by rfl)) (by rfl) (by rfl) (by rfl))))
    · exact coreS _ _ _ _ _ _ _ (by rfl) (by rfl) (wants_core 40 94 40 _ _ _ (by rfl) (by rfl) (by rfl) (known_core 40 94 _ _ (of_decide_eq_true (by rfl)) (by rfl) (by rfl) (by rfl)) _ (by rfl)) (fun ρ w kn hs => o_loadN (kn _ _ (F.old (by rfl) rfl)) (hs.get 4 rfl))
    · exact coreS _ _ _ _ _ _ _ (by rfl) (by rfl) (wants_core 40 94 40 _ _ _ (by rfl) (by rfl) (by rfl) (known_core 40 94 _ _ (of_decide_eq_true (by rfl)) (by rfl) (by rfl) (by rfl)) _ (by rfl)) (fun ρ w kn hs => o_fieldG1 (kn _ _ (F.old (by rfl) rfl)))
    · exact coreS _ _ _ _ _ _ _ (by rfl) (by rfl) (wants_core 40 94 40 _ _ _ (by rfl) (by rfl) (by rfl) (known_core 40 94 _ _ (of_decide_eq_true (by rfl)) (by rfl) (by rfl) (by rfl)) _ (by rfl)) (fun ρ w kn hs => o_loadG1 (kn _ _ (known_core 42 96 _ _ (of_decide_eq_true (by rfl)) (by rfl) (by rfl) (by rfl))) (hs.get 5 rfl))
    · exact core_pureAs _ (by rfl)
    · exact coreS _ _ _ _ _ _ _ (by rfl) (by rfl) (wants_core 40 94 40 _ _ _ (by rfl) (by rfl) (by rfl) (known_core 40 94 _ _ (of_decide_eq_true (by rfl)) (by rfl) (by rfl) (by rfl)) _ (by rfl)) (fun ρ w kn hs => o_bin (u := .int .i64 (cmpN x Q)) (v := .int .i64 0) (fun ρ hx hy => by simp only [execOp, hx, hy]; simp [go_sem]; exact hxQ) (kn _ _ (known_core 44 98 _ _ (of_decide_eq_true (by rfl)) (by rfl) (by rfl) (by rfl))) (kn _ _ (known_const _)))
    · exact coreS _ _ _ _ _ _ _ (by rfl) (by rfl) (wants_none) (fun ρ w kn hs => o_pick (b := true) (r := .bool true) (kn _ _ (known_core 40 94 _ _ (of_decide_eq_true (by rfl)) (by rfl) (by rfl) (by rfl))) (kn _ _ (known_core 45 99 _ _ (of_decide_eq_true (by rfl)) (by rfl) (by rfl) (by rfl))) (kn _ _ (known_const _)) rfl)
  · refine all_cons ?_ (all_cons ?_ (all_cons ?_ (all_cons ?_ (all_cons ?_ (all_cons ?_ (all_cons ?_ (all_cons ?_ (all_cons ?_ (all_cons ?_ (all_cons ?_ (all_cons ?_ (all_cons ?_ (all_cons ?_ (all_cons ?_ (all_cons ?_ (all_cons ?_ (all_cons ?_ (all_cons ?_ (all_cons ?_ (all_cons ?_ (all_cons ?_ (all_cons ?_ (all_cons ?_ (all_cons ?_ (all_cons ?_ (all_cons ?_ (all_cons ?_ (all_cons ?_ (all_cons ?_ (all_cons ?_ (all_cons ?_ (all_cons ?_ (all_cons ?_ (all_cons ?_ (all_cons ?_ (all_cons ?_ (all_cons ?_ (all_cons ?_ (all_cons ?_ (all_cons ?_ (all_cons ?_ (all_cons ?_ (all_cons ?_ (all_cons ?_ (all_cons ?_ (all_cons ?_ (all_nil)))))))))))))))))))))))))))))))))))))))))))))))
    · exact fun _ => coreG_call _ 26 _ _ [] _ _ _ _ _ _ _ (by rfl) Try.func26 (by kernel_rfl) (by rfl) (by rfl) (wants_none) .nil (alive9_any)
    · exact core_stepAs _ (by rfl)
    · exact core_stepAs _ (by rfl)
    · exact core_stepAs _ (by rfl)
    · exact core_stepAs _ (by rfl)
    · exact core_stepAs _ (by rfl)
    · exact core_stepAs _ (by rfl)
    · exact core_stepAs _ (by rfl)
    · exact core_stepAs _ (by rfl)
    · exact core_stepAs _ (by rfl)
    · exact core_stepAs _ (by rfl)
    · exact core_stepAs _ (by rfl)
    · exact core_stepAs _ (by rfl)
    · exact core_stepAs _ (by rfl)
    · exact core_stepAs _ (by rfl)
    · exact core_stepAs _ (by rfl)
    · exact core_stepAs _ (by rfl)
    · exact core_stepAs _ (by rfl)
    · exact core_stepAs _ (by rfl)
    · exact fun _ => coreG_call _ 22 _ _ [.tmp 69, .tmp 72] _ _ _ _ _ _ _ (by rfl) Try.func22 (by kernel_rfl) (by rfl) (by rfl) (wants_core 13 67 13 _ _ _ (by rfl) (by rfl) (by rfl) (known_core 13 67 _ _ (of_decide_eq_true (by rfl)) (by rfl) (by rfl) (by rfl)) _ (by rfl)) (.cons (known_core 15 69 _ _ (of_decide_eq_true (by rfl)) (by rfl) (by rfl) (by rfl)) (.cons (known_core 18 72 _ _ (of_decide_eq_true (by rfl)) (by rfl) (by rfl) (by rfl)) .nil)) (o1)
    · exact core_stepAs _ (by rfl)
    · exact core_stepAs _ (by rfl)
    · exact core_stepAs _ (by rfl)
    · exact core_stepAs _ (by rfl)
    · exact core_stepAs _ (by rfl)
    · exact core_stepAs _ (by rfl)
    · exact core_stepAs _ (by rfl)
    · exact core_stepAs _ (by rfl)
    · exact fun _ => coreG_call _ 22 _ _ [.tmp 78, .tmp 81] _ _ _ _ _ _ _ (by rfl) Try.func22 (by kernel_rfl) (by rfl) (by rfl) (wants_core 22 76 22 _ _ _ (by rfl) (by rfl) (by rfl) (known_core 22 76 _ _ (of_decide_eq_true (by rfl)) (by rfl) (by rfl) (by rfl)) _ (by rfl)) (.cons (known_core 24 78 _ _ (of_decide_eq_true (by rfl)) (by rfl) (by rfl) (by rfl)) (.cons (known_core 27 81 _ _ (of_decide_eq_true (by rfl)) (by rfl) (by rfl) (by rfl)) .nil)) (o2)
    · exact core_stepAs _ (by rfl)
    · exact core_stepAs _ (by rfl)
    · exact core_stepAs _ (by rfl)
    · exact core_stepAs _ (by rfl)
    · exact core_stepAs _ (by rfl)
    · exact core_stepAs _ (by rfl)
    · exact core_stepAs _ (by rfl)
    · exact core_stepAs _ (by rfl)
    · exact fun _ => coreG_call _ 22 _ _ [.tmp 87, .tmp 90] _ _ _ _ _ _ _ (by rfl) Try.func22 (by kernel_rfl) (by rfl) (by rfl) (wants_core 31 85 31 _ _ _ (by rfl) (by rfl) (by rfl) (known_core 31 85 _ _ (of_decide_eq_true (by rfl)) (by rfl) (by rfl) (by rfl)) _ (by rfl)) (.cons (known_core 33 87 _ _ (of_decide_eq_true (by rfl)) (by rfl) (by rfl) (by rfl)) (.cons (known_core 36 90 _ _ (of_decide_eq_true (by rfl)) (by rfl) (by rfl) (by rfl)) .nil)) (o3)
    · exact core_stepAs _ (by rfl)
    · exact core_stepAs _ (by rfl)
    · exact core_stepAs _ (by rfl)
    · exact core_stepAs _ (by rfl)
    · exact core_stepAs _ (by rfl)
    · exact core_stepAs _ (by rfl)
    · exact fun _ => coreG_call _ 24 _ _ [.tmp 95, .tmp 97] _ _ _ _ _ _ _ (by rfl) Try.func24 (by kernel_rfl) (by rfl) (by rfl) (wants_core 40 94 40 _ _ _ (by rfl) (by rfl) (by rfl) (known_core 40 94 _ _ (of_decide_eq_true (by rfl)) (by rfl) (by rfl) (by rfl)) _ (by rfl)) (.cons (known_core 41 95 _ _ (of_decide_eq_true (by rfl)) (by rfl) (by rfl) (by rfl)) (.cons (known_core 43 97 _ _ (of_decide_eq_true (by rfl)) (by rfl) (by rfl) (by rfl)) .nil)) (ck)
    · exact core_stepAs _ (by rfl)
    · exact core_stepAs _ (by rfl)
  intro gs rs a w hgs hrs F HM
  obtain rfl := nl0 rs hrs
  clear hrs
  obtain rfl := nl0 gs hgs
  clear hgs
  refine sx_assign (i := 47) (d := 6) (x := .tmp 100) (v := .bool true) F (HM) (by kernel_rfl) (by rfl) (by rfl) (F.ev rfl) fun a F => ?_
  refine sx_done (by kernel_rfl) ?_ _
  repeat (first | refine ex_then ?_ | refine ex_block ?_ | refine wp_seq ?_ | refine wp_block ?_ | refine wp_skip ?_)
  refine wp_ret ?_
  repeat (first | refine ex_thenR ?_ | refine ex_blockR ?_)
  exact sx_ret F HM (res_tmp F rfl (s := 6) rfl)

theorem whole_walk (P Q G H : Nat) (a b : Int) (hQ : Q < 2 ^ 256) (ha1 : -2147483648 ≤ a) (ha2 : a < 2147483648) (hb1 : -2147483648 ≤ b) (hb2 : b < 2147483648) (w : World) : Calls Try.prog 5 #[grp P Q G H, .int .i32 a, .int .i32 b] w fun e w' => e = .returned (.bool true) ∧ Below w.heap.size w w' := by
  by_cases h1 : 1 < Q
  case neg => exact whole_low P Q G H a b hQ (cmpN_le (by omega)) w
  have wr : ∀ n : Int, -9223372036854775808 ≤ n → n < 9223372036854775808 → IntKind.i64.wrap n = n := fun n h h' => by rw [IntKind.wrap_i64]; omega
  obtain ⟨m1, m2⟩ : -9223372036854775808 ≤ a * b ∧ a * b < 9223372036854775808 := by
    have hab : (a * b).natAbs ≤ 2147483648 * 2147483648 := by
      rw [Int.natAbs_mul]; exact Nat.mul_le_mul (by omega) (by omega)
    omega
  have lx := sof_lt h1 a; have ly := sof_lt h1 b
  have c1 := sadd_yes P Q G H (sofN Q a) (sofN Q b) hQ h1 lx ly
  have c2 := ssub_yes P Q G H (sofN Q a) (sofN Q b) hQ h1 lx ly
  have c3 := smul_yes P Q G H (sofN Q a) (sofN Q b) hQ h1 lx ly
  rw [sof_add h1] at c1; rw [sof_sub h1] at c2; rw [sof_mul h1] at c3
  have so := fun (n : Int) (h : -9223372036854775808 ≤ n) (h' : n < 9223372036854775808) => fun w => sof_any P Q G H n hQ h h' w
  exact whole_w P Q G H _ _ _ _ _ a b hQ (cmpN_pos h1) (wr a (by omega) (by omega)) (wr b (by omega) (by omega)) (wr _ (by omega) (by omega)) (wr _ (by omega) (by omega)) (wr _ m1 m2)
    (so a (by omega) (by omega)) (so b (by omega) (by omega)) c1 c2 c3 (so _ (by omega) (by omega)) (so _ (by omega) (by omega)) (so _ m1 m2) (fun w => cmp_any _ Q (Nat.lt_trans lx hQ) hQ w) (cmpN_neg lx) w
set_option maxRecDepth 100000 in
set_option maxHeartbeats 8000000 in
theorem next_low (P Q G H : Nat) (n : Int)
    (hQ : Q < 2 ^ 256)
    (hk : cmpN Q 1 ≤ 0)
    (w : World) : Calls Try.prog 6 #[grp P Q G H, .int .i64 n] w fun e w' => e = .returned (.bool true) ∧ Below w.heap.size w w' := by
  refine sx_enter (args := [grp P Q G H, .int .i64 n]) Try.func6 rfl Try.ntmps6 (by rfl) fun a F HM => ?_
  repeat (first | refine ex_then ?_ | refine ex_block ?_ | refine wp_seq ?_ | refine wp_block ?_ | refine wp_skip ?_)
  refine wp_region_lit ?_
  refine lx_new F HM (wanted_none rfl _) rfl (by rfl) (o_boxG (F.ev rfl)) fun a w gg F HM => ?_
  refine lx_value (v := .bool false) F (wanted_none rfl _) rfl (by rfl) (o_assign rfl) fun a F => ?_
  refine lx_nil ?_
  repeat (first | refine ex_then ?_ | refine ex_block ?_ | refine wp_seq ?_ | refine wp_block ?_ | refine wp_skip ?_)
  try simp only [List.append_eq, List.cons_append, List.nil_append]
  refine sx_drawn [⟨0, 11, [], .val (.pointer (some ⟨gg, 4, none⟩)), true⟩,
      ⟨1, 12, [0], .val (num Q), true⟩,
      ⟨2, 13, [1], .val (num 1), false⟩,
      ⟨3, 14, [1, 2], .val (.int .i64 (cmpN Q 1)), false⟩,
      ⟨4, 15, [3], .val (.bool true), true⟩,
      ⟨5, 16, [4], .val (.bool true), true⟩,
      ⟨6, 17, [5], .val undef, true⟩,
      ⟨7, 18, [5, 6], .val undef, true⟩,
      ⟨8, 19, [5, 7], .val (.bool true), true⟩,
      ⟨9, 20, [8], .val (.bool true), true⟩,
      ⟨10, 21, [9], .val undef, true⟩,
      ⟨11, 22, [9, 10], .val undef, true⟩,
      ⟨12, 23, [9, 11], .val (.bool true), true⟩] 0 F HM (by kernel_rfl) (by rfl) (by rfl) ?_ ?_ ?_ ?_ ?_ ?_ ?_
  · kernel_rfl
  · exact of_decide_eq_true (by kernel_rfl)
  · exact all_cons ⟨_, by rfl, by rfl⟩ (all_cons ⟨_, by rfl, by rfl⟩ (all_cons ⟨_, by rfl, by rfl⟩ (all_cons ⟨_, by rfl, by rfl⟩ (all_cons ⟨_, by rfl, by rfl⟩ (all_cons ⟨_, by rfl, by rfl⟩ (all_cons ⟨_, by rfl, by rfl⟩ (all_cons ⟨_, by rfl, by rfl⟩ (all_cons ⟨_, by rfl, by rfl⟩ (all_cons ⟨_, by rfl, by rfl⟩ (all_cons ⟨_, by rfl, by rfl⟩ (all_cons ⟨_, by rfl, by rfl⟩ (all_cons ⟨_, by rfl, by rfl⟩ (all_nil)))))))))))))
  · kernel_rfl
  · refine all_cons ?_ (all_cons ?_ (all_cons ?_ (all_cons ?_ (all_cons ?_ (all_cons ?_ (all_cons ?_ (all_cons ?_ (all_cons ?_ (all_cons ?_ (all_cons ?_ (all_cons ?_ (all_cons ?_ (all_nil)))))))))))))
    · exact coreS _ _ _ _ _ _ _ (by rfl) (by rfl) (wants_none) (fun ρ w kn hs => o_fieldG1 (kn _ _ (F.old (by rfl) rfl)))
    · exact coreS _ _ _ _ _ _ _ (by rfl) (by rfl) (wants_none) (fun ρ w kn hs => o_loadG1 (kn _ _ (known_core 0 11 _ _ (of_decide_eq_true (by rfl)) (by rfl) (by rfl) (by rfl))) (hs.get 0 rfl))
    · exact core_pureAs _ (by rfl)
    · exact core_pureAs _ (by rfl)
    · exact coreS _ _ _ _ _ _ _ (by rfl) (by rfl) (wants_none) (fun ρ w kn hs => o_bin (u := .int .i64 (cmpN Q 1)) (v := .int .i64 0) (fun ρ hx hy => by simp only [execOp, hx, hy]; simp [go_sem]; exact hk) (kn _ _ (known_core 3 14 _ _ (of_decide_eq_true (by rfl)) (by rfl) (by rfl) (by rfl))) (kn _ _ (known_const _)))
    · exact coreS _ _ _ _ _ _ _ (by rfl) (by rfl) (wants_none) (fun ρ w kn hs => o_move (kn _ _ (known_core 4 15 _ _ (of_decide_eq_true (by rfl)) (by rfl) (by rfl) (by rfl))))
    · exact coreG_skip _ _ _ _ _ _ (by rfl) (by rfl) (wants_core 5 16 5 _ _ _ (by rfl) (by rfl) (by rfl) (known_core 5 16 _ _ (of_decide_eq_true (by rfl)) (by rfl) (by rfl) (by rfl)) _ (by rfl))
    · exact coreG_skip _ _ _ _ _ _ (by rfl) (by rfl) (wants_core 5 16 5 _ _ _ (by rfl) (by rfl) (by rfl) (known_core 5 16 _ _ (of_decide_eq_true (by rfl)) (by rfl) (by rfl) (by rfl)) _ (by rfl))
    · exact coreS _ _ _ _ _ _ _ (by rfl) (by rfl) (wants_none) (fun ρ w kn hs => o_pick (b := true) (r := .bool true) (kn _ _ (known_core 5 16 _ _ (of_decide_eq_true (by rfl)) (by rfl) (by rfl) (by rfl))) (kn _ _ (known_const _)) (kn _ _ (known_core 7 18 _ _ (of_decide_eq_true (by rfl)) (by rfl) (by rfl) (by rfl))) rfl)
    · exact coreS _ _ _ _ _ _ _ (by rfl) (by rfl) (wants_none) (fun ρ w kn hs => o_move (kn _ _ (known_core 8 19 _ _ (of_decide_eq_true (by rfl)) (by rfl) (by rfl) (by rfl))))
    · exact coreG_skip _ _ _ _ _ _ (by rfl) (by rfl) (wants_core 9 20 9 _ _ _ (by rfl) (by rfl) (by rfl) (known_core 9 20 _ _ (of_decide_eq_true (by rfl)) (by rfl) (by rfl) (by rfl)) _ (by rfl))
    · exact coreG_skip _ _ _ _ _ _ (by rfl) (by rfl) (wants_core 9 20 9 _ _ _ (by rfl) (by rfl) (by rfl) (known_core 9 20 _ _ (of_decide_eq_true (by rfl)) (by rfl) (by rfl) (by rfl)) _ (by rfl))
    · exact coreS _ _ _ _ _ _ _ (by rfl) (by rfl) (wants_none) (fun ρ w kn hs => o_pick (b := true) (r := .bool true) (kn _ _ (known_core 9 20 _ _ (of_decide_eq_true (by rfl)) (by rfl) (by rfl) (by rfl))) (kn _ _ (known_const _)) (kn _ _ (known_core 11 22 _ _ (of_decide_eq_true (by rfl)) (by rfl) (by rfl) (by rfl))) rfl)
  · refine all_cons ?_ (all_cons ?_ (all_cons ?_ (all_cons ?_ (all_cons ?_ (all_cons ?_ (all_cons ?_ (all_cons ?_ (all_cons ?_ (all_cons ?_ (all_cons ?_ (all_cons ?_ (all_cons ?_ (all_nil)))))))))))))
    · exact core_stepAs _ (by rfl)
    · exact core_stepAs _ (by rfl)
    · exact fun _ => coreG_call _ 25 _ _ [.const (.int .u64 1)] _ _ _ _ _ _ _ (by rfl) Try.func25 (by kernel_rfl) (by rfl) (by rfl) (wants_none) (.cons (known_const _) .nil) ((fun w => of9_any 1 (by decide) w))
    · exact fun _ => coreG_call _ 24 _ _ [.tmp 12, .tmp 13] _ _ _ _ _ _ _ (by rfl) Try.func24 (by kernel_rfl) (by rfl) (by rfl) (wants_none) (.cons (known_core 1 12 _ _ (of_decide_eq_true (by rfl)) (by rfl) (by rfl) (by rfl)) (.cons (known_core 2 13 _ _ (of_decide_eq_true (by rfl)) (by rfl) (by rfl) (by rfl)) .nil)) ((fun w => cmp_any Q 1 hQ (by decide) w))
    · exact core_stepAs _ (by rfl)
    · exact core_stepAs _ (by rfl)
    · exact core_stepAs _ (by rfl)
    · exact core_stepAs _ (by rfl)
    · exact core_stepAs _ (by rfl)
    · exact core_stepAs _ (by rfl)
    · exact core_stepAs _ (by rfl)
    · exact core_stepAs _ (by rfl)
    · exact core_stepAs _ (by rfl)
  intro gs rs a w hgs hrs F HM
  obtain rfl := nl0 rs hrs
  clear hrs
  obtain rfl := nl0 gs hgs
  clear hgs
  refine sx_done (by kernel_rfl) ?_ _
  repeat (first | refine ex_then ?_ | refine ex_block ?_ | refine wp_seq ?_ | refine wp_block ?_ | refine wp_skip ?_)
  refine wp_cond_true (F.ev rfl) ?_
  repeat (first | refine ex_then ?_ | refine ex_block ?_ | refine wp_seq ?_ | refine wp_block ?_ | refine wp_skip ?_)
  refine wp_region_lit ?_
  refine lx_call F (wanted_none rfl _) rfl (by rfl) (run_callF Try.func26 (by kernel_rfl) (by rfl) .nil _) (alive9_any _) fun a w z F => ?_
  replace HM := HM.on z
  clear z
  refine lx_value (v := .bool true) F (wanted_none rfl _) rfl (by rfl) (o_assign (F.ev rfl)) fun a F => ?_
  refine lx_nil ?_
  repeat (first | refine ex_then ?_ | refine ex_block ?_ | refine wp_seq ?_ | refine wp_block ?_ | refine wp_skip ?_)
  refine wp_ret ?_
  repeat (first | refine ex_thenR ?_ | refine ex_blockR ?_)
  exact sx_ret F HM (res_tmp F rfl (s := 4) rfl)

set_option maxRecDepth 100000 in
set_option maxHeartbeats 8000000 in
theorem next_max (P Q G H : Nat) (n : Int)
    (hQ : Q < 2 ^ 256)
    (hk : 0 < cmpN Q 1)
    (hm : n = 9223372036854775807)
    (w : World) : Calls Try.prog 6 #[grp P Q G H, .int .i64 n] w fun e w' => e = .returned (.bool true) ∧ Below w.heap.size w w' := by
  refine sx_enter (args := [grp P Q G H, .int .i64 n]) Try.func6 rfl Try.ntmps6 (by rfl) fun a F HM => ?_
  repeat (first | refine ex_then ?_ | refine ex_block ?_ | refine wp_seq ?_ | refine wp_block ?_ | refine wp_skip ?_)
  refine wp_region_lit ?_
  refine lx_new F HM (wanted_none rfl _) rfl (by rfl) (o_boxG (F.ev rfl)) fun a w gg F HM => ?_
  refine lx_value (v := .bool false) F (wanted_none rfl _) rfl (by rfl) (o_assign rfl) fun a F => ?_
  refine lx_nil ?_
  repeat (first | refine ex_then ?_ | refine ex_block ?_ | refine wp_seq ?_ | refine wp_block ?_ | refine wp_skip ?_)
  try simp only [List.append_eq, List.cons_append, List.nil_append]
  refine sx_drawn [⟨0, 11, [], .val (.pointer (some ⟨gg, 4, none⟩)), true⟩,
      ⟨1, 12, [0], .val (num Q), true⟩,
      ⟨2, 13, [1], .val (num 1), false⟩,
      ⟨3, 14, [1, 2], .val (.int .i64 (cmpN Q 1)), false⟩,
      ⟨4, 15, [3], .val (.bool false), true⟩,
      ⟨5, 16, [4], .val (.bool false), true⟩,
      ⟨6, 17, [5], .val (.int .i64 n), true⟩,
      ⟨7, 18, [5, 6], .val (.bool true), true⟩,
      ⟨8, 19, [5, 7], .val (.bool true), true⟩,
      ⟨9, 20, [8], .val (.bool true), true⟩,
      ⟨10, 21, [9], .val undef, true⟩,
      ⟨11, 22, [9, 10], .val undef, true⟩,
      ⟨12, 23, [9, 11], .val (.bool true), true⟩] 0 F HM (by kernel_rfl) (by rfl) (by rfl) ?_ ?_ ?_ ?_ ?_ ?_ ?_
  · kernel_rfl
  · exact of_decide_eq_true (by kernel_rfl)
  · exact all_cons ⟨_, by rfl, by rfl⟩ (all_cons ⟨_, by rfl, by rfl⟩ (all_cons ⟨_, by rfl, by rfl⟩ (all_cons ⟨_, by rfl, by rfl⟩ (all_cons ⟨_, by rfl, by rfl⟩ (all_cons ⟨_, by rfl, by rfl⟩ (all_cons ⟨_, by rfl, by rfl⟩ (all_cons ⟨_, by rfl, by rfl⟩ (all_cons ⟨_, by rfl, by rfl⟩ (all_cons ⟨_, by rfl, by rfl⟩ (all_cons ⟨_, by rfl, by rfl⟩ (all_cons ⟨_, by rfl, by rfl⟩ (all_cons ⟨_, by rfl, by rfl⟩ (all_nil)))))))))))))
  · kernel_rfl
  · refine all_cons ?_ (all_cons ?_ (all_cons ?_ (all_cons ?_ (all_cons ?_ (all_cons ?_ (all_cons ?_ (all_cons ?_ (all_cons ?_ (all_cons ?_ (all_cons ?_ (all_cons ?_ (all_cons ?_ (all_nil)))))))))))))
    · exact coreS _ _ _ _ _ _ _ (by rfl) (by rfl) (wants_none) (fun ρ w kn hs => o_fieldG1 (kn _ _ (F.old (by rfl) rfl)))
    · exact coreS _ _ _ _ _ _ _ (by rfl) (by rfl) (wants_none) (fun ρ w kn hs => o_loadG1 (kn _ _ (known_core 0 11 _ _ (of_decide_eq_true (by rfl)) (by rfl) (by rfl) (by rfl))) (hs.get 0 rfl))
    · exact core_pureAs _ (by rfl)
    · exact core_pureAs _ (by rfl)
    · exact coreS _ _ _ _ _ _ _ (by rfl) (by rfl) (wants_none) (fun ρ w kn hs => o_bin (u := .int .i64 (cmpN Q 1)) (v := .int .i64 0) (fun ρ hx hy => by simp only [execOp, hx, hy]; simp [go_sem]; exact hk) (kn _ _ (known_core 3 14 _ _ (of_decide_eq_true (by rfl)) (by rfl) (by rfl) (by rfl))) (kn _ _ (known_const _)))
    · exact coreS _ _ _ _ _ _ _ (by rfl) (by rfl) (wants_none) (fun ρ w kn hs => o_move (kn _ _ (known_core 4 15 _ _ (of_decide_eq_true (by rfl)) (by rfl) (by rfl) (by rfl))))
    · exact coreS _ _ _ _ _ _ _ (by rfl) (by rfl) (wants_core 5 16 5 _ _ _ (by rfl) (by rfl) (by rfl) (known_core 5 16 _ _ (of_decide_eq_true (by rfl)) (by rfl) (by rfl) (by rfl)) _ (by rfl)) (fun ρ w kn hs => o_move (kn _ _ (F.old (by rfl) rfl)))
    · exact coreS _ _ _ _ _ _ _ (by rfl) (by rfl) (wants_core 5 16 5 _ _ _ (by rfl) (by rfl) (by rfl) (known_core 5 16 _ _ (of_decide_eq_true (by rfl)) (by rfl) (by rfl) (by rfl)) _ (by rfl)) (fun ρ w kn hs => o_bin (u := .int .i64 n) (v := .int .i64 9223372036854775807) (fun ρ hx hy => by simp only [execOp, hx, hy]; simp [go_sem]; omega) (kn _ _ (known_core 6 17 _ _ (of_decide_eq_true (by rfl)) (by rfl) (by rfl) (by rfl))) (kn _ _ (known_const _)))
    · exact coreS _ _ _ _ _ _ _ (by rfl) (by rfl) (wants_none) (fun ρ w kn hs => o_pick (b := false) (r := .bool true) (kn _ _ (known_core 5 16 _ _ (of_decide_eq_true (by rfl)) (by rfl) (by rfl) (by rfl))) (kn _ _ (known_const _)) (kn _ _ (known_core 7 18 _ _ (of_decide_eq_true (by rfl)) (by rfl) (by rfl) (by rfl))) rfl)
    · exact coreS _ _ _ _ _ _ _ (by rfl) (by rfl) (wants_none) (fun ρ w kn hs => o_move (kn _ _ (known_core 8 19 _ _ (of_decide_eq_true (by rfl)) (by rfl) (by rfl) (by rfl))))
    · exact coreG_skip _ _ _ _ _ _ (by rfl) (by rfl) (wants_core 9 20 9 _ _ _ (by rfl) (by rfl) (by rfl) (known_core 9 20 _ _ (of_decide_eq_true (by rfl)) (by rfl) (by rfl) (by rfl)) _ (by rfl))
    · exact coreG_skip _ _ _ _ _ _ (by rfl) (by rfl) (wants_core 9 20 9 _ _ _ (by rfl) (by rfl) (by rfl) (known_core 9 20 _ _ (of_decide_eq_true (by rfl)) (by rfl) (by rfl) (by rfl)) _ (by rfl))
    · exact coreS _ _ _ _ _ _ _ (by rfl) (by rfl) (wants_none) (fun ρ w kn hs => o_pick (b := true) (r := .bool true) (kn _ _ (known_core 9 20 _ _ (of_decide_eq_true (by rfl)) (by rfl) (by rfl) (by rfl))) (kn _ _ (known_const _)) (kn _ _ (known_core 11 22 _ _ (of_decide_eq_true (by rfl)) (by rfl) (by rfl) (by rfl))) rfl)
  · refine all_cons ?_ (all_cons ?_ (all_cons ?_ (all_cons ?_ (all_cons ?_ (all_cons ?_ (all_cons ?_ (all_cons ?_ (all_cons ?_ (all_cons ?_ (all_cons ?_ (all_cons ?_ (all_cons ?_ (all_nil)))))))))))))
    · exact core_stepAs _ (by rfl)
    · exact core_stepAs _ (by rfl)
    · exact fun _ => coreG_call _ 25 _ _ [.const (.int .u64 1)] _ _ _ _ _ _ _ (by rfl) Try.func25 (by kernel_rfl) (by rfl) (by rfl) (wants_none) (.cons (known_const _) .nil) ((fun w => of9_any 1 (by decide) w))
    · exact fun _ => coreG_call _ 24 _ _ [.tmp 12, .tmp 13] _ _ _ _ _ _ _ (by rfl) Try.func24 (by kernel_rfl) (by rfl) (by rfl) (wants_none) (.cons (known_core 1 12 _ _ (of_decide_eq_true (by rfl)) (by rfl) (by rfl) (by rfl)) (.cons (known_core 2 13 _ _ (of_decide_eq_true (by rfl)) (by rfl) (by rfl) (by rfl)) .nil)) ((fun w => cmp_any Q 1 hQ (by decide) w))
    · exact core_stepAs _ (by rfl)
    · exact core_stepAs _ (by rfl)
    · exact core_stepAs _ (by rfl)
    · exact core_stepAs _ (by rfl)
    · exact core_stepAs _ (by rfl)
    · exact core_stepAs _ (by rfl)
    · exact core_stepAs _ (by rfl)
    · exact core_stepAs _ (by rfl)
    · exact core_stepAs _ (by rfl)
  intro gs rs a w hgs hrs F HM
  obtain rfl := nl0 rs hrs
  clear hrs
  obtain rfl := nl0 gs hgs
  clear hgs
  refine sx_done (by kernel_rfl) ?_ _
  repeat (first | refine ex_then ?_ | refine ex_block ?_ | refine wp_seq ?_ | refine wp_block ?_ | refine wp_skip ?_)
  refine wp_cond_true (F.ev rfl) ?_
  repeat (first | refine ex_then ?_ | refine ex_block ?_ | refine wp_seq ?_ | refine wp_block ?_ | refine wp_skip ?_)
  refine wp_region_lit ?_
  refine lx_call F (wanted_none rfl _) rfl (by rfl) (run_callF Try.func26 (by kernel_rfl) (by rfl) .nil _) (alive9_any _) fun a w z F => ?_
  replace HM := HM.on z
  clear z
  refine lx_value (v := .bool true) F (wanted_none rfl _) rfl (by rfl) (o_assign (F.ev rfl)) fun a F => ?_
  refine lx_nil ?_
  repeat (first | refine ex_then ?_ | refine ex_block ?_ | refine wp_seq ?_ | refine wp_block ?_ | refine wp_skip ?_)
  refine wp_ret ?_
  repeat (first | refine ex_thenR ?_ | refine ex_blockR ?_)
  exact sx_ret F HM (res_tmp F rfl (s := 4) rfl)

set_option maxRecDepth 100000 in
set_option maxHeartbeats 8000000 in
theorem next_min (P Q G H : Nat) (n : Int)
    (hQ : Q < 2 ^ 256)
    (hk : 0 < cmpN Q 1)
    (hm : ¬ n = 9223372036854775807)
    (hl : n = -9223372036854775808)
    (w : World) : Calls Try.prog 6 #[grp P Q G H, .int .i64 n] w fun e w' => e = .returned (.bool true) ∧ Below w.heap.size w w' := by
  refine sx_enter (args := [grp P Q G H, .int .i64 n]) Try.func6 rfl Try.ntmps6 (by rfl) fun a F HM => ?_
  repeat (first | refine ex_then ?_ | refine ex_block ?_ | refine wp_seq ?_ | refine wp_block ?_ | refine wp_skip ?_)
  refine wp_region_lit ?_
  refine lx_new F HM (wanted_none rfl _) rfl (by rfl) (o_boxG (F.ev rfl)) fun a w gg F HM => ?_
  refine lx_value (v := .bool false) F (wanted_none rfl _) rfl (by rfl) (o_assign rfl) fun a F => ?_
  refine lx_nil ?_
  repeat (first | refine ex_then ?_ | refine ex_block ?_ | refine wp_seq ?_ | refine wp_block ?_ | refine wp_skip ?_)
  try simp only [List.append_eq, List.cons_append, List.nil_append]
  refine sx_drawn [⟨0, 11, [], .val (.pointer (some ⟨gg, 4, none⟩)), true⟩,
      ⟨1, 12, [0], .val (num Q), true⟩,
      ⟨2, 13, [1], .val (num 1), false⟩,
      ⟨3, 14, [1, 2], .val (.int .i64 (cmpN Q 1)), false⟩,
      ⟨4, 15, [3], .val (.bool false), true⟩,
      ⟨5, 16, [4], .val (.bool false), true⟩,
      ⟨6, 17, [5], .val (.int .i64 n), true⟩,
      ⟨7, 18, [5, 6], .val (.bool false), true⟩,
      ⟨8, 19, [5, 7], .val (.bool false), true⟩,
      ⟨9, 20, [8], .val (.bool false), true⟩,
      ⟨10, 21, [9], .val (.int .i64 n), true⟩,
      ⟨11, 22, [9, 10], .val (.bool true), true⟩,
      ⟨12, 23, [9, 11], .val (.bool true), true⟩] 0 F HM (by kernel_rfl) (by rfl) (by rfl) ?_ ?_ ?_ ?_ ?_ ?_ ?_
  · kernel_rfl
  · exact of_decide_eq_true (by kernel_rfl)
  · exact all_cons ⟨_, by rfl, by rfl⟩ (all_cons ⟨_, by rfl, by rfl⟩ (all_cons ⟨_, by rfl, by rfl⟩ (all_cons ⟨_, by rfl, by rfl⟩ (all_cons ⟨_, by rfl, by rfl⟩ (all_cons ⟨_, by rfl, by rfl⟩ (all_cons ⟨_, by rfl, by rfl⟩ (all_cons ⟨_, by rfl, by rfl⟩ (all_cons ⟨_, by rfl, by rfl⟩ (all_cons ⟨_, by rfl, by rfl⟩ (all_cons ⟨_, by rfl, by rfl⟩ (all_cons ⟨_, by rfl, by rfl⟩ (all_cons ⟨_, by rfl, by rfl⟩ (all_nil)))))))))))))
  · kernel_rfl
  · refine all_cons ?_ (all_cons ?_ (all_cons ?_ (all_cons ?_ (all_cons ?_ (all_cons ?_ (all_cons ?_ (all_cons ?_ (all_cons ?_ (all_cons ?_ (all_cons ?_ (all_cons ?_ (all_cons ?_ (all_nil)))))))))))))
    · exact coreS _ _ _ _ _ _ _ (by rfl) (by rfl) (wants_none) (fun ρ w kn hs => o_fieldG1 (kn _ _ (F.old (by rfl) rfl)))
    · exact coreS _ _ _ _ _ _ _ (by rfl) (by rfl) (wants_none) (fun ρ w kn hs => o_loadG1 (kn _ _ (known_core 0 11 _ _ (of_decide_eq_true (by rfl)) (by rfl) (by rfl) (by rfl))) (hs.get 0 rfl))
    · exact core_pureAs _ (by rfl)
    · exact core_pureAs _ (by rfl)
    · exact coreS _ _ _ _ _ _ _ (by rfl) (by rfl) (wants_none) (fun ρ w kn hs => o_bin (u := .int .i64 (cmpN Q 1)) (v := .int .i64 0) (fun ρ hx hy => by simp only [execOp, hx, hy]; simp [go_sem]; exact hk) (kn _ _ (known_core 3 14 _ _ (of_decide_eq_true (by rfl)) (by rfl) (by rfl) (by rfl))) (kn _ _ (known_const _)))
    · exact coreS _ _ _ _ _ _ _ (by rfl) (by rfl) (wants_none) (fun ρ w kn hs => o_move (kn _ _ (known_core 4 15 _ _ (of_decide_eq_true (by rfl)) (by rfl) (by rfl) (by rfl))))
    · exact coreS _ _ _ _ _ _ _ (by rfl) (by rfl) (wants_core 5 16 5 _ _ _ (by rfl) (by rfl) (by rfl) (known_core 5 16 _ _ (of_decide_eq_true (by rfl)) (by rfl) (by rfl) (by rfl)) _ (by rfl)) (fun ρ w kn hs => o_move (kn _ _ (F.old (by rfl) rfl)))
    · exact coreS _ _ _ _ _ _ _ (by rfl) (by rfl) (wants_core 5 16 5 _ _ _ (by rfl) (by rfl) (by rfl) (known_core 5 16 _ _ (of_decide_eq_true (by rfl)) (by rfl) (by rfl) (by rfl)) _ (by rfl)) (fun ρ w kn hs => o_bin (u := .int .i64 n) (v := .int .i64 9223372036854775807) (fun ρ hx hy => by simp only [execOp, hx, hy]; simp [go_sem]; omega) (kn _ _ (known_core 6 17 _ _ (of_decide_eq_true (by rfl)) (by rfl) (by rfl) (by rfl))) (kn _ _ (known_const _)))
    · exact coreS _ _ _ _ _ _ _ (by rfl) (by rfl) (wants_none) (fun ρ w kn hs => o_pick (b := false) (r := .bool false) (kn _ _ (known_core 5 16 _ _ (of_decide_eq_true (by rfl)) (by rfl) (by rfl) (by rfl))) (kn _ _ (known_const _)) (kn _ _ (known_core 7 18 _ _ (of_decide_eq_true (by rfl)) (by rfl) (by rfl) (by rfl))) rfl)
    · exact coreS _ _ _ _ _ _ _ (by rfl) (by rfl) (wants_none) (fun ρ w kn hs => o_move (kn _ _ (known_core 8 19 _ _ (of_decide_eq_true (by rfl)) (by rfl) (by rfl) (by rfl))))
    · exact coreS _ _ _ _ _ _ _ (by rfl) (by rfl) (wants_core 9 20 9 _ _ _ (by rfl) (by rfl) (by rfl) (known_core 9 20 _ _ (of_decide_eq_true (by rfl)) (by rfl) (by rfl) (by rfl)) _ (by rfl)) (fun ρ w kn hs => o_move (kn _ _ (F.old (by rfl) rfl)))
    · exact coreS _ _ _ _ _ _ _ (by rfl) (by rfl) (wants_core 9 20 9 _ _ _ (by rfl) (by rfl) (by rfl) (known_core 9 20 _ _ (of_decide_eq_true (by rfl)) (by rfl) (by rfl) (by rfl)) _ (by rfl)) (fun ρ w kn hs => o_bin (u := .int .i64 n) (v := .int .i64 (-9223372036854775808)) (fun ρ hx hy => by simp only [execOp, hx, hy]; simp [go_sem]; omega) (kn _ _ (known_core 10 21 _ _ (of_decide_eq_true (by rfl)) (by rfl) (by rfl) (by rfl))) (kn _ _ (known_const _)))
    · exact coreS _ _ _ _ _ _ _ (by rfl) (by rfl) (wants_none) (fun ρ w kn hs => o_pick (b := false) (r := .bool true) (kn _ _ (known_core 9 20 _ _ (of_decide_eq_true (by rfl)) (by rfl) (by rfl) (by rfl))) (kn _ _ (known_const _)) (kn _ _ (known_core 11 22 _ _ (of_decide_eq_true (by rfl)) (by rfl) (by rfl) (by rfl))) rfl)
  · refine all_cons ?_ (all_cons ?_ (all_cons ?_ (all_cons ?_ (all_cons ?_ (all_cons ?_ (all_cons ?_ (all_cons ?_ (all_cons ?_ (all_cons ?_ (all_cons ?_ (all_cons ?_ (all_cons ?_ (all_nil)))))))))))))
    · exact core_stepAs _ (by rfl)
    · exact core_stepAs _ (by rfl)
    · exact fun _ => coreG_call _ 25 _ _ [.const (.int .u64 1)] _ _ _ _ _ _ _ (by rfl) Try.func25 (by kernel_rfl) (by rfl) (by rfl) (wants_none) (.cons (known_const _) .nil) ((fun w => of9_any 1 (by decide) w))
    · exact fun _ => coreG_call _ 24 _ _ [.tmp 12, .tmp 13] _ _ _ _ _ _ _ (by rfl) Try.func24 (by kernel_rfl) (by rfl) (by rfl) (wants_none) (.cons (known_core 1 12 _ _ (of_decide_eq_true (by rfl)) (by rfl) (by rfl) (by rfl)) (.cons (known_core 2 13 _ _ (of_decide_eq_true (by rfl)) (by rfl) (by rfl) (by rfl)) .nil)) ((fun w => cmp_any Q 1 hQ (by decide) w))
    · exact core_stepAs _ (by rfl)
    · exact core_stepAs _ (by rfl)
    · exact core_stepAs _ (by rfl)
    · exact core_stepAs _ (by rfl)
    · exact core_stepAs _ (by rfl)
    · exact core_stepAs _ (by rfl)
    · exact core_stepAs _ (by rfl)
    · exact core_stepAs _ (by rfl)
    · exact core_stepAs _ (by rfl)
  intro gs rs a w hgs hrs F HM
  obtain rfl := nl0 rs hrs
  clear hrs
  obtain rfl := nl0 gs hgs
  clear hgs
  refine sx_done (by kernel_rfl) ?_ _
  repeat (first | refine ex_then ?_ | refine ex_block ?_ | refine wp_seq ?_ | refine wp_block ?_ | refine wp_skip ?_)
  refine wp_cond_true (F.ev rfl) ?_
  repeat (first | refine ex_then ?_ | refine ex_block ?_ | refine wp_seq ?_ | refine wp_block ?_ | refine wp_skip ?_)
  refine wp_region_lit ?_
  refine lx_call F (wanted_none rfl _) rfl (by rfl) (run_callF Try.func26 (by kernel_rfl) (by rfl) .nil _) (alive9_any _) fun a w z F => ?_
  replace HM := HM.on z
  clear z
  refine lx_value (v := .bool true) F (wanted_none rfl _) rfl (by rfl) (o_assign (F.ev rfl)) fun a F => ?_
  refine lx_nil ?_
  repeat (first | refine ex_then ?_ | refine ex_block ?_ | refine wp_seq ?_ | refine wp_block ?_ | refine wp_skip ?_)
  refine wp_ret ?_
  repeat (first | refine ex_thenR ?_ | refine ex_blockR ?_)
  exact sx_ret F HM (res_tmp F rfl (s := 4) rfl)

set_option maxRecDepth 100000 in
set_option maxHeartbeats 8000000 in
theorem next_true (P Q G H x y v : Nat) (n : Int)
    (hQ : Q < 2 ^ 256)
    (hk : 0 < cmpN Q 1)
    (hm : ¬ n = 9223372036854775807)
    (hl : ¬ n = -9223372036854775808)
    (sa : ∀ w, Calls Try.prog 22 #[grp P Q G H, .int .i64 n] w fun e w' => e = .returned (num x) ∧ Below w.heap.size w w')
    (w1 : IntKind.i64.wrap (n + 1) = n + 1)
    (sb : ∀ w, Calls Try.prog 22 #[grp P Q G H, .int .i64 (n + 1)] w fun e w' => e = .returned (num y) ∧ Below w.heap.size w w')
    (c1 : ∀ w, Calls Try.prog 14 #[grp P Q G H, num x, num 1] w fun e w' => e = .returned (.tuple #[num y, .int .i64 0]) ∧ Below w.heap.size w w')
    (wn : IntKind.i64.wrap (-n) = -n)
    (sc : ∀ w, Calls Try.prog 22 #[grp P Q G H, .int .i64 (-n)] w fun e w' => e = .returned (num v) ∧ Below w.heap.size w w')
    (c2 : ∀ w, Calls Try.prog 14 #[grp P Q G H, num x, num v] w fun e w' => e = .returned (.tuple #[num 0, .int .i64 0]) ∧ Below w.heap.size w w')
    (hy : y < 2 ^ 256)
    (hz : decide (y = 0) = true)
    (w : World) : Calls Try.prog 6 #[grp P Q G H, .int .i64 n] w fun e w' => e = .returned (.bool true) ∧ Below w.heap.size w w' := by
  refine sx_enter (args := [grp P Q G H, .int .i64 n]) Try.func6 rfl Try.ntmps6 (by rfl) fun a F HM => ?_
  repeat (first | refine ex_then ?_ | refine ex_block ?_ | refine wp_seq ?_ | refine wp_block ?_ | refine wp_skip ?_)
  refine wp_region_lit ?_
  refine lx_new F HM (wanted_none rfl _) rfl (by rfl) (o_boxG (F.ev rfl)) fun a w gg F HM => ?_
  refine lx_value (v := .bool false) F (wanted_none rfl _) rfl (by rfl) (o_assign rfl) fun a F => ?_
  refine lx_nil ?_
  repeat (first | refine ex_then ?_ | refine ex_block ?_ | refine wp_seq ?_ | refine wp_block ?_ | refine wp_skip ?_)
  try simp only [List.append_eq, List.cons_append, List.nil_append]
  refine sx_drawn [⟨0, 11, [], .val (.pointer (some ⟨gg, 4, none⟩)), true⟩,
      ⟨1, 12, [0], .val (num Q), true⟩,
      ⟨2, 13, [1], .val (num 1), false⟩,
      ⟨3, 14, [1, 2], .val (.int .i64 (cmpN Q 1)), false⟩,
      ⟨4, 15, [3], .val (.bool false), true⟩,
      ⟨5, 16, [4], .val (.bool false), true⟩,
      ⟨6, 17, [5], .val (.int .i64 n), true⟩,
      ⟨7, 18, [5, 6], .val (.bool false), true⟩,
      ⟨8, 19, [5, 7], .val (.bool false), true⟩,
      ⟨9, 20, [8], .val (.bool false), true⟩,
      ⟨10, 21, [9], .val (.int .i64 n), true⟩,
      ⟨11, 22, [9, 10], .val (.bool false), true⟩,
      ⟨12, 23, [9, 11], .val (.bool false), true⟩] 0 F HM (by kernel_rfl) (by rfl) (by rfl) ?_ ?_ ?_ ?_ ?_ ?_ ?_
  · kernel_rfl
  · exact of_decide_eq_true (by kernel_rfl)
  · exact all_cons ⟨_, by rfl, by rfl⟩ (all_cons ⟨_, by rfl, by rfl⟩ (all_cons ⟨_, by rfl, by rfl⟩ (all_cons ⟨_, by rfl, by rfl⟩ (all_cons ⟨_, by rfl, by rfl⟩ (all_cons ⟨_, by rfl, by rfl⟩ (all_cons ⟨_, by rfl, by rfl⟩ (all_cons ⟨_, by rfl, by rfl⟩ (all_cons ⟨_, by rfl, by rfl⟩ (all_cons ⟨_, by rfl, by rfl⟩ (all_cons ⟨_, by rfl, by rfl⟩ (all_cons ⟨_, by rfl, by rfl⟩ (all_cons ⟨_, by rfl, by rfl⟩ (all_nil)))))))))))))
  · kernel_rfl
  · refine all_cons ?_ (all_cons ?_ (all_cons ?_ (all_cons ?_ (all_cons ?_ (all_cons ?_ (all_cons ?_ (all_cons ?_ (all_cons ?_ (all_cons ?_ (all_cons ?_ (all_cons ?_ (all_cons ?_ (all_nil)))))))))))))
    · exact coreS _ _ _ _ _ _ _ (by rfl) (by rfl) (wants_none) (fun ρ w kn hs => o_fieldG1 (kn _ _ (F.old (by rfl) rfl)))
    · exact coreS _ _ _ _ _ _ _ (by rfl) (by rfl) (wants_none) (fun ρ w kn hs => o_loadG1 (kn _ _ (known_core 0 11 _ _ (of_decide_eq_true (by rfl)) (by rfl) (by rfl) (by rfl))) (hs.get 0 rfl))
    · exact core_pureAs _ (by rfl)
    · exact core_pureAs _ (by rfl)
    · exact coreS _ _ _ _ _ _ _ (by rfl) (by rfl) (wants_none) (fun ρ w kn hs => o_bin (u := .int .i64 (cmpN Q 1)) (v := .int .i64 0) (fun ρ hx hy => by simp only [execOp, hx, hy]; simp [go_sem]; exact hk) (kn _ _ (known_core 3 14 _ _ (of_decide_eq_true (by rfl)) (by rfl) (by rfl) (by rfl))) (kn _ _ (known_const _)))
    · exact coreS _ _ _ _ _ _ _ (by rfl) (by rfl) (wants_none) (fun ρ w kn hs => o_move (kn _ _ (known_core 4 15 _ _ (of_decide_eq_true (by rfl)) (by rfl) (by rfl) (by rfl))))
    · exact coreS _ _ _ _ _ _ _ (by rfl) (by rfl) (wants_core 5 16 5 _ _ _ (by rfl) (by rfl) (by rfl) (known_core 5 16 _ _ (of_decide_eq_true (by rfl)) (by rfl) (by rfl) (by rfl)) _ (by rfl)) (fun ρ w kn hs => o_move (kn _ _ (F.old (by rfl) rfl)))
    · exact coreS _ _ _ _ _ _ _ (by rfl) (by rfl) (wants_core 5 16 5 _ _ _ (by rfl) (by rfl) (by rfl) (known_core 5 16 _ _ (of_decide_eq_true (by rfl)) (by rfl) (by rfl) (by rfl)) _ (by rfl)) (fun ρ w kn hs => o_bin (u := .int .i64 n) (v := .int .i64 9223372036854775807) (fun ρ hx hy => by simp only [execOp, hx, hy]; simp [go_sem]; omega) (kn _ _ (known_core 6 17 _ _ (of_decide_eq_true (by rfl)) (by rfl) (by rfl) (by rfl))) (kn _ _ (known_const _)))
    · exact coreS _ _ _ _ _ _ _ (by rfl) (by rfl) (wants_none) (fun ρ w kn hs => o_pick (b := false) (r := .bool false) (kn _ _ (known_core 5 16 _ _ (of_decide_eq_true (by rfl)) (by rfl) (by rfl) (by rfl))) (kn _ _ (known_const _)) (kn _ _ (known_core 7 18 _ _ (of_decide_eq_true (by rfl)) (by rfl) (by rfl) (by rfl))) rfl)
    · exact coreS _ _ _ _ _ _ _ (by rfl) (by rfl) (wants_none) (fun ρ w kn hs => o_move (kn _ _ (known_core 8 19 _ _ (of_decide_eq_true (by rfl)) (by rfl) (by rfl) (by rfl))))
    · exact coreS _ _ _ _ _ _ _ (by rfl) (by rfl) (wants_core 9 20 9 _ _ _ (by rfl) (by rfl) (by rfl) (known_core 9 20 _ _ (of_decide_eq_true (by rfl)) (by rfl) (by rfl) (by rfl)) _ (by rfl)) (fun ρ w kn hs => o_move (kn _ _ (F.old (by rfl) rfl)))
    · exact coreS _ _ _ _ _ _ _ (by rfl) (by rfl) (wants_core 9 20 9 _ _ _ (by rfl) (by rfl) (by rfl) (known_core 9 20 _ _ (of_decide_eq_true (by rfl)) (by rfl) (by rfl) (by rfl)) _ (by rfl)) (fun ρ w kn hs => o_bin (u := .int .i64 n) (v := .int .i64 (-9223372036854775808)) (fun ρ hx hy => by simp only [execOp, hx, hy]; simp [go_sem]; omega) (kn _ _ (known_core 10 21 _ _ (of_decide_eq_true (by rfl)) (by rfl) (by rfl) (by rfl))) (kn _ _ (known_const _)))
    · exact coreS _ _ _ _ _ _ _ (by rfl) (by rfl) (wants_none) (fun ρ w kn hs => o_pick (b := false) (r := .bool false) (kn _ _ (known_core 9 20 _ _ (of_decide_eq_true (by rfl)) (by rfl) (by rfl) (by rfl))) (kn _ _ (known_const _)) (kn _ _ (known_core 11 22 _ _ (of_decide_eq_true (by rfl)) (by rfl) (by rfl) (by rfl))) rfl)
  · refine all_cons ?_ (all_cons ?_ (all_cons ?_ (all_cons ?_ (all_cons ?_ (all_cons ?_ (all_cons ?_ (all_cons ?_ (all_cons ?_ (all_cons ?_ (all_cons ?_ (all_cons ?_ (all_cons ?_ (all_nil)))))))))))))
    · exact core_stepAs _ (by rfl)
    · exact core_stepAs _ (by rfl)
    · exact fun _ => coreG_call _ 25 _ _ [.const (.int .u64 1)] _ _ _ _ _ _ _ (by rfl) Try.func25 (by kernel_rfl) (by rfl) (by rfl) (wants_none) (.cons (known_const _) .nil) ((fun w => of9_any 1 (by decide) w))
    · exact fun _ => coreG_call _ 24 _ _ [.tmp 12, .tmp 13] _ _ _ _ _ _ _ (by rfl) Try.func24 (by kernel_rfl) (by rfl) (by rfl) (wants_none) (.cons (known_core 1 12 _ _ (of_decide_eq_true (by rfl)) (by rfl) (by rfl) (by rfl)) (.cons (known_core 2 13 _ _ (of_decide_eq_true (by rfl)) (by rfl) (by rfl) (by rfl)) .nil)) ((fun w => cmp_any Q 1 hQ (by decide) w))
    · exact core_stepAs _ (by rfl)
    · exact core_stepAs _ (by rfl)
    · exact core_stepAs _ (by rfl)
    · exact core_stepAs _ (by rfl)
    · exact core_stepAs _ (by rfl)
    · exact core_stepAs _ (by rfl)
    · exact core_stepAs _ (by rfl)
    · exact core_stepAs _ (by rfl)
    · exact core_stepAs _ (by rfl)
  intro gs rs a w hgs hrs F HM
  obtain rfl := nl0 rs hrs
  clear hrs
  obtain rfl := nl0 gs hgs
  clear hgs
  refine sx_done (by kernel_rfl) ?_ _
  repeat (first | refine ex_then ?_ | refine ex_block ?_ | refine wp_seq ?_ | refine wp_block ?_ | refine wp_skip ?_)
  refine wp_cond_false (F.ev rfl) ?_
  repeat (first | refine ex_then ?_ | refine ex_block ?_ | refine wp_seq ?_ | refine wp_block ?_ | refine wp_skip ?_)
  refine wp_region_lit ?_
  refine lx_value (v := grp P Q G H) F (wanted_none rfl _) rfl (by rfl) (o_loadG (F.ev rfl) (HM.get 0 rfl)) fun a F => ?_
  refine lx_value (v := .int .i64 n) F (wanted_none rfl _) rfl (by rfl) (o_move (F.ev rfl)) fun a F => ?_
  refine lx_call F (wanted_none rfl _) rfl (by rfl) (run_callF Try.func22 (by kernel_rfl) (by rfl) (.cons (F.ev rfl) (.cons (F.ev rfl) .nil)) _) (sa _) fun a w z F => ?_
  replace HM := HM.on z
  clear z
  refine lx_new F HM (wanted_none rfl _) rfl (by rfl) (o_allocN) fun a w gx F HM => ?_
  refine lx_store F HM (wanted_none rfl _) rfl (k := 0) rfl (o_storeN (F.ev rfl) (F.ev rfl) (HM.get 0 rfl)) (M2 := [(gx, 24, ncs x), (gg, 35, gcs P Q G H)]) rfl fun w HM => ?_
  refine lx_nil ?_
  repeat (first | refine ex_then ?_ | refine ex_block ?_ | refine wp_seq ?_ | refine wp_block ?_ | refine wp_skip ?_)
  refine wp_region_lit ?_
  refine lx_value (v := grp P Q G H) F (wanted_none rfl _) rfl (by rfl) (o_loadG (F.ev rfl) (HM.get 1 rfl)) fun a F => ?_
  refine lx_value (v := .int .i64 n) F (wanted_none rfl _) rfl (by rfl) (o_move (F.ev rfl)) fun a F => ?_
  refine lx_value (v := .int .i64 (n + 1)) F (wanted_none rfl _) rfl (by rfl) (o_bin2 (n := n) (m := 1) (k := n + 1) (fun ρ hx hy => by simp only [execOp, hx, hy]; simp [go_sem]; exact w1) (F.ev rfl) rfl) fun a F => ?_
  refine lx_call F (wanted_none rfl _) rfl (by rfl) (run_callF Try.func22 (by kernel_rfl) (by rfl) (.cons (F.ev rfl) (.cons (F.ev rfl) .nil)) _) (sb _) fun a w z F => ?_
  replace HM := HM.on z
  clear z
  refine lx_new F HM (wanted_none rfl _) rfl (by rfl) (o_allocN) fun a w gy F HM => ?_
  refine lx_store F HM (wanted_none rfl _) rfl (k := 0) rfl (o_storeN (F.ev rfl) (F.ev rfl) (HM.get 0 rfl)) (M2 := [(gy, 24, ncs y), (gx, 24, ncs x), (gg, 35, gcs P Q G H)]) rfl fun w HM => ?_
  refine lx_nil ?_
  repeat (first | refine ex_then ?_ | refine ex_block ?_ | refine wp_seq ?_ | refine wp_block ?_ | refine wp_skip ?_)
  try simp only [List.append_eq, List.cons_append, List.nil_append]
  refine sx_drawn [⟨0, 33, [], .val (grp P Q G H), true⟩,
      ⟨1, 34, [0], .val (num x), true⟩,
      ⟨7, 7, [], .cell 24 (ncs 0), false⟩,
      ⟨2, 35, [1], .val (num 1), false⟩,
      ⟨3, 36, [0, 1, 3], .val (.tuple #[num y, .int .i64 0]), false⟩,
      ⟨4, 32, [4], .val (.tuple #[num y, .int .i64 0]), true⟩,
      ⟨5, 37, [5], .val (num y), true⟩,
      ⟨6, 38, [5, 6], .val (.int .i64 0), true⟩] 2 F HM (by kernel_rfl) (by rfl) (by rfl) ?_ ?_ ?_ ?_ ?_ ?_ ?_
  · kernel_rfl
  · exact of_decide_eq_true (by kernel_rfl)
  · exact all_cons ⟨_, by rfl, by rfl⟩ (all_cons ⟨_, by rfl, by rfl⟩ (all_cons ⟨_, by rfl, by rfl⟩ (all_cons ⟨_, by rfl, by rfl⟩ (all_cons ⟨_, by rfl, by rfl⟩ (all_cons ⟨_, by rfl, by rfl⟩ (all_cons ⟨_, by rfl, by rfl⟩ (all_cons ⟨_, by rfl, by rfl⟩ (all_nil))))))))
  · kernel_rfl
  · refine all_cons ?_ (all_cons ?_ (all_cons ?_ (all_cons ?_ (all_cons ?_ (all_cons ?_ (all_cons ?_ (all_cons ?_ (all_nil))))))))
    · exact coreS _ _ _ _ _ _ _ (by rfl) (by rfl) (wants_none) (fun ρ w kn hs => o_loadG (kn _ _ (F.old (by rfl) rfl)) (hs.get 2 rfl))
    · exact coreS _ _ _ _ _ _ _ (by rfl) (by rfl) (wants_none) (fun ρ w kn hs => o_loadN (kn _ _ (F.old (by rfl) rfl)) (hs.get 1 rfl))
    · exact core_pureAs _ (by rfl)
    · exact core_pureAs _ (by rfl)
    · exact core_pureAs _ (by rfl)
    · exact coreS _ _ _ _ _ _ _ (by rfl) (by rfl) (wants_none) (fun ρ w kn hs => o_move (kn _ _ (known_core 4 36 _ _ (of_decide_eq_true (by rfl)) (by rfl) (by rfl) (by rfl))))
    · exact coreS _ _ _ _ _ _ _ (by rfl) (by rfl) (wants_none) (fun ρ w kn hs => o_extract (kn _ _ (known_core 5 32 _ _ (of_decide_eq_true (by rfl)) (by rfl) (by rfl) (by rfl))) rfl)
    · exact coreS _ _ _ _ _ _ _ (by rfl) (by rfl) (wants_none) (fun ρ w kn hs => o_extract (kn _ _ (known_core 5 32 _ _ (of_decide_eq_true (by rfl)) (by rfl) (by rfl) (by rfl))) rfl)
  · refine all_cons ?_ (all_cons ?_ (all_cons ?_ (all_cons ?_ (all_cons ?_ (all_cons ?_ (all_cons ?_ (all_cons ?_ (all_nil))))))))
    · exact core_stepAs _ (by rfl)
    · exact core_stepAs _ (by rfl)
    · exact fun _ => core_new _ _ _ _ _ _ _ _ (by rfl) (by rfl) (Nat.le_refl _) (fun ρ w => o_allocN)
    · exact fun _ => coreG_call _ 25 _ _ [.const (.int .u64 1)] _ _ _ _ _ _ _ (by rfl) Try.func25 (by kernel_rfl) (by rfl) (by rfl) (wants_none) (.cons (known_const _) .nil) ((fun w => of9_any 1 (by decide) w))
    · exact fun _ => coreG_call _ 14 _ _ [.tmp 33, .tmp 34, .tmp 35] _ _ _ _ _ _ _ (by rfl) Try.func14 (by kernel_rfl) (by rfl) (by rfl) (wants_none) (.cons (known_core 0 33 _ _ (of_decide_eq_true (by rfl)) (by rfl) (by rfl) (by rfl)) (.cons (known_core 1 34 _ _ (of_decide_eq_true (by rfl)) (by rfl) (by rfl) (by rfl)) (.cons (known_core 3 35 _ _ (of_decide_eq_true (by rfl)) (by rfl) (by rfl) (by rfl)) .nil))) (c1)
    · exact core_stepAs _ (by rfl)
    · exact core_stepAs _ (by rfl)
    · exact core_stepAs _ (by rfl)
  intro gs rs a w hgs hrs F HM
  obtain rfl := nl0 rs hrs
  clear hrs
  obtain ⟨gn, rfl⟩ := nl1 gs hgs
  clear hgs
  refine sx_store (i := 8) HM (by kernel_rfl) (by rfl) rfl rfl (k := 0) rfl (o_storeN (F.ev rfl) (F.ev rfl) (HM.get 0 rfl)) (M2 := [(gn, 24, ncs y), (gy, 24, ncs y), (gx, 24, ncs x), (gg, 35, gcs P Q G H)]) rfl (fun _ h => h.tail (A := [(gn, 24, ncs y)])) fun w HM => ?_
  refine sx_assign (i := 9) (d := 8) (x := .tmp 38) (v := .int .i64 0) F (HM.tail (A := [(gn, 24, ncs y)])) (by kernel_rfl) (by rfl) (by rfl) (F.ev rfl) fun a F => ?_
  refine sx_done (by kernel_rfl) ?_ _
  repeat (first | refine ex_then ?_ | refine ex_block ?_ | refine wp_seq ?_ | refine wp_block ?_ | refine wp_skip ?_)
  try simp only [List.append_eq, List.cons_append, List.nil_append]
  refine sx_drawn [⟨0, 40, [], .val (grp P Q G H), true⟩,
      ⟨1, 41, [0], .val (num x), true⟩,
      ⟨2, 42, [1], .val (grp P Q G H), true⟩,
      ⟨3, 43, [2], .val (.int .i64 n), true⟩,
      ⟨4, 44, [3], .val (.int .i64 (-n)), true⟩,
      ⟨10, 9, [], .cell 24 (ncs 0), false⟩,
      ⟨5, 45, [2, 4], .val (num v), false⟩,
      ⟨6, 46, [0, 1, 6], .val (.tuple #[num 0, .int .i64 0]), false⟩,
      ⟨7, 39, [7], .val (.tuple #[num 0, .int .i64 0]), true⟩,
      ⟨8, 47, [8], .val (num 0), true⟩,
      ⟨9, 48, [8, 9], .val (.int .i64 0), true⟩] 2 F HM (by kernel_rfl) (by rfl) (by rfl) ?_ ?_ ?_ ?_ ?_ ?_ ?_
  · kernel_rfl
  · exact of_decide_eq_true (by kernel_rfl)
  · exact all_cons ⟨_, by rfl, by rfl⟩ (all_cons ⟨_, by rfl, by rfl⟩ (all_cons ⟨_, by rfl, by rfl⟩ (all_cons ⟨_, by rfl, by rfl⟩ (all_cons ⟨_, by rfl, by rfl⟩ (all_cons ⟨_, by rfl, by rfl⟩ (all_cons ⟨_, by rfl, by rfl⟩ (all_cons ⟨_, by rfl, by rfl⟩ (all_cons ⟨_, by rfl, by rfl⟩ (all_cons ⟨_, by rfl, by rfl⟩ (all_cons ⟨_, by rfl, by rfl⟩ (all_nil)))))))))))
  · kernel_rfl
  · refine all_cons ?_ (all_cons ?_ (all_cons ?_ (all_cons ?_ (all_cons ?_ (all_cons ?_ (all_cons ?_ (all_cons ?_ (all_cons ?_ (all_cons ?_ (all_cons ?_ (all_nil)))))))))))
    · exact coreS _ _ _ _ _ _ _ (by rfl) (by rfl) (wants_none) (fun ρ w kn hs => o_loadG (kn _ _ (F.old (by rfl) rfl)) (hs.get 3 rfl))
    · exact coreS _ _ _ _ _ _ _ (by rfl) (by rfl) (wants_none) (fun ρ w kn hs => o_loadN (kn _ _ (F.old (by rfl) rfl)) (hs.get 2 rfl))
    · exact coreS _ _ _ _ _ _ _ (by rfl) (by rfl) (wants_none) (fun ρ w kn hs => o_loadG (kn _ _ (F.old (by rfl) rfl)) (hs.get 3 rfl))
    · exact coreS _ _ _ _ _ _ _ (by rfl) (by rfl) (wants_none) (fun ρ w kn hs => o_move (kn _ _ (F.old (by rfl) rfl)))
    · exact coreS _ _ _ _ _ _ _ (by rfl) (by rfl) (wants_none) (fun ρ w kn hs => o_negI wn (kn _ _ (known_core 3 43 _ _ (of_decide_eq_true (by rfl)) (by rfl) (by rfl) (by rfl))))
    · exact core_pureAs _ (by rfl)
    · exact core_pureAs _ (by rfl)
    · exact core_pureAs _ (by rfl)
    · exact coreS _ _ _ _ _ _ _ (by rfl) (by rfl) (wants_none) (fun ρ w kn hs => o_move (kn _ _ (known_core 7 46 _ _ (of_decide_eq_true (by rfl)) (by rfl) (by rfl) (by rfl))))
    · exact coreS _ _ _ _ _ _ _ (by rfl) (by rfl) (wants_none) (fun ρ w kn hs => o_extract (kn _ _ (known_core 8 39 _ _ (of_decide_eq_true (by rfl)) (by rfl) (by rfl) (by rfl))) rfl)
    · exact coreS _ _ _ _ _ _ _ (by rfl) (by rfl) (wants_none) (fun ρ w kn hs => o_extract (kn _ _ (known_core 8 39 _ _ (of_decide_eq_true (by rfl)) (by rfl) (by rfl) (by rfl))) rfl)
  · refine all_cons ?_ (all_cons ?_ (all_cons ?_ (all_cons ?_ (all_cons ?_ (all_cons ?_ (all_cons ?_ (all_cons ?_ (all_cons ?_ (all_cons ?_ (all_cons ?_ (all_nil)))))))))))
    · exact core_stepAs _ (by rfl)
    · exact core_stepAs _ (by rfl)
    · exact core_stepAs _ (by rfl)
    · exact core_stepAs _ (by rfl)
    · exact core_stepAs _ (by rfl)
    · exact fun _ => core_new _ _ _ _ _ _ _ _ (by rfl) (by rfl) (Nat.le_refl _) (fun ρ w => o_allocN)
    · exact fun _ => coreG_call _ 22 _ _ [.tmp 42, .tmp 44] _ _ _ _ _ _ _ (by rfl) Try.func22 (by kernel_rfl) (by rfl) (by rfl) (wants_none) (.cons (known_core 2 42 _ _ (of_decide_eq_true (by rfl)) (by rfl) (by rfl) (by rfl)) (.cons (known_core 4 44 _ _ (of_decide_eq_true (by rfl)) (by rfl) (by rfl) (by rfl)) .nil)) (sc)
    · exact fun _ => coreG_call _ 14 _ _ [.tmp 40, .tmp 41, .tmp 45] _ _ _ _ _ _ _ (by rfl) Try.func14 (by kernel_rfl) (by rfl) (by rfl) (wants_none) (.cons (known_core 0 40 _ _ (of_decide_eq_true (by rfl)) (by rfl) (by rfl) (by rfl)) (.cons (known_core 1 41 _ _ (of_decide_eq_true (by rfl)) (by rfl) (by rfl) (by rfl)) (.cons (known_core 6 45 _ _ (of_decide_eq_true (by rfl)) (by rfl) (by rfl) (by rfl)) .nil))) (c2)
    · exact core_stepAs _ (by rfl)
    · exact core_stepAs _ (by rfl)
    · exact core_stepAs _ (by rfl)
  intro gs rs a w hgs hrs F HM
  obtain rfl := nl0 rs hrs
  clear hrs
  obtain ⟨gs, rfl⟩ := nl1 gs hgs
  clear hgs
  refine sx_store (i := 11) HM (by kernel_rfl) (by rfl) rfl rfl (k := 0) rfl (o_storeN (F.ev rfl) (F.ev rfl) (HM.get 0 rfl)) (M2 := [(gs, 24, ncs 0), (gn, 24, ncs y), (gy, 24, ncs y), (gx, 24, ncs x), (gg, 35, gcs P Q G H)]) rfl (fun _ h => h.tail (A := [(gs, 24, ncs 0)])) fun w HM => ?_
  refine sx_assign (i := 12) (d := 10) (x := .tmp 48) (v := .int .i64 0) F (HM.tail (A := [(gs, 24, ncs 0)])) (by kernel_rfl) (by rfl) (by rfl) (F.ev rfl) fun a F => ?_
  refine sx_done (by kernel_rfl) ?_ _
  repeat (first | refine ex_then ?_ | refine ex_block ?_ | refine wp_seq ?_ | refine wp_block ?_ | refine wp_skip ?_)
  try simp only [List.append_eq, List.cons_append, List.nil_append]
  refine sx_drawn [⟨0, 49, [], .val (.bool true), false⟩,
      ⟨1, 50, [0], .val (.bool true), true⟩,
      ⟨2, 51, [1], .val (.int .i64 0), true⟩,
      ⟨3, 52, [1, 2], .val (.bool true), true⟩,
      ⟨4, 53, [1, 3], .val (.bool true), true⟩,
      ⟨5, 54, [4], .val (.bool true), true⟩,
      ⟨6, 55, [5], .val (.int .i64 0), true⟩,
      ⟨7, 56, [5, 6], .val (.bool true), true⟩,
      ⟨8, 57, [5, 7], .val (.bool true), true⟩,
      ⟨9, 58, [8], .val (.bool true), true⟩,
      ⟨10, 59, [9], .val (num y), true⟩,
      ⟨11, 60, [9, 10], .val (num y), true⟩,
      ⟨12, 61, [9, 10, 11], .val (.bool true), true⟩,
      ⟨13, 62, [9, 12], .val (.bool true), true⟩,
      ⟨14, 63, [13], .val (.bool true), true⟩,
      ⟨15, 64, [14], .val (num 0), true⟩,
      ⟨16, 65, [14, 15], .val (num 0), false⟩,
      ⟨17, 66, [14, 15, 16], .val (.bool true), true⟩,
      ⟨18, 67, [14, 17], .val (.bool true), true⟩,
      ⟨19, 68, [18], .val (.bool true), true⟩,
      ⟨20, 69, [19], .val (num y), true⟩,
      ⟨21, 70, [19, 20], .val (num 0), false⟩,
      ⟨22, 71, [19, 20, 21], .val (.bool true), true⟩,
      ⟨23, 72, [19, 22], .val (.bool true), true⟩,
      ⟨24, 73, [23], .val undef, true⟩,
      ⟨25, 74, [23, 24], .val undef, true⟩,
      ⟨26, 75, [23, 24, 25], .val undef, true⟩,
      ⟨27, 76, [23, 26], .val undef, true⟩,
      ⟨28, 77, [19, 23, 27], .val (.bool true), true⟩,
      ⟨29, 78, [19, 28], .val (.bool true), true⟩] 1 F HM (by kernel_rfl) (by rfl) (by rfl) ?_ ?_ ?_ ?_ ?_ ?_ ?_
  · kernel_rfl
  · exact of_decide_eq_true (by kernel_rfl)
  · exact all_cons ⟨_, by rfl, by rfl⟩ (all_cons ⟨_, by rfl, by rfl⟩ (all_cons ⟨_, by rfl, by rfl⟩ (all_cons ⟨_, by rfl, by rfl⟩ (all_cons ⟨_, by rfl, by rfl⟩ (all_cons ⟨_, by rfl, by rfl⟩ (all_cons ⟨_, by rfl, by rfl⟩ (all_cons ⟨_, by rfl, by rfl⟩ (all_cons ⟨_, by rfl, by rfl⟩ (all_cons ⟨_, by rfl, by rfl⟩ (all_cons ⟨_, by rfl, by rfl⟩ (all_cons ⟨_, by rfl, by rfl⟩ (all_cons ⟨_, by rfl, by rfl⟩ (all_cons ⟨_, by rfl, by rfl⟩ (all_cons ⟨_, by rfl, by rfl⟩ (all_cons ⟨_, by rfl, by rfl⟩ (all_cons ⟨_, by rfl, by rfl⟩ (all_cons ⟨_, by rfl, by rfl⟩ (all_cons ⟨_, by rfl, by rfl⟩ (all_cons ⟨_, by rfl, by rfl⟩ (all_cons ⟨_, by rfl, by rfl⟩ (all_cons ⟨_, by rfl, by rfl⟩ (all_cons ⟨_, by rfl, by rfl⟩ (all_cons ⟨_, by rfl, by rfl⟩ (all_cons ⟨_, by rfl, by rfl⟩ (all_cons ⟨_, by rfl, by rfl⟩ (all_cons ⟨_, by rfl, by rfl⟩ (all_cons ⟨_, by rfl, by rfl⟩ (all_cons ⟨_, by rfl, by rfl⟩ (all_cons ⟨_, by rfl, by rfl⟩ (all_nil))))))))))))))))))))))))))))))
  · kernel_rfl
  · refine all_cons ?_ (all_cons ?_ (all_cons ?_ (all_cons ?_ (all_cons ?_ (all_cons ?_ (all_cons ?_ (all_cons ?_ (all_cons ?_ (all_cons ?_ (all_cons ?_ (all_cons ?_ (all_cons ?_ (all_cons ?_ (all_cons ?_ (all_cons ?_ (all_cons ?_ (all_cons ?_ (all_cons ?_ (all_cons ?_ (all_cons ?_ (all_cons ?_ (all_cons ?_ (all_cons ?_ (all_cons ?_ (all_cons ?_ (all_cons ?_ (all_cons ?_ (all_cons ?_ (all_cons ?_ (all_nil))))))))))))))))))))))))))))))
    · exact core_pureAs _ (by rfl)
    · exact coreS _ _ _ _ _ _ _ (by rfl) (by rfl) (wants_none) (fun ρ w kn hs => o_move (kn _ _ (known_core 0 49 _ _ (of_decide_eq_true (by rfl)) (by rfl) (by rfl) (by rfl))))
    · exact coreS _ _ _ _ _ _ _ (by rfl) (by rfl) (wants_core 1 50 1 _ _ _ (by rfl) (by rfl) (by rfl) (known_core 1 50 _ _ (of_decide_eq_true (by rfl)) (by rfl) (by rfl) (by rfl)) _ (by rfl)) (fun ρ w kn hs => o_move (kn _ _ (F.old (by rfl) rfl)))
    · exact coreS _ _ _ _ _ _ _ (by rfl) (by rfl) (wants_core 1 50 1 _ _ _ (by rfl) (by rfl) (by rfl) (known_core 1 50 _ _ (of_decide_eq_true (by rfl)) (by rfl) (by rfl) (by rfl)) _ (by rfl)) (fun ρ w kn hs => o_bin (u := .int .i64 0) (v := .int .i64 0) (fun ρ hx hy => by simp only [execOp, hx, hy]; simp [go_sem]) (kn _ _ (known_core 2 51 _ _ (of_decide_eq_true (by rfl)) (by rfl) (by rfl) (by rfl))) (kn _ _ (known_const _)))
    · exact coreS _ _ _ _ _ _ _ (by rfl) (by rfl) (wants_none) (fun ρ w kn hs => o_pick (b := true) (r := .bool true) (kn _ _ (known_core 1 50 _ _ (of_decide_eq_true (by rfl)) (by rfl) (by rfl) (by rfl))) (kn _ _ (known_core 3 52 _ _ (of_decide_eq_true (by rfl)) (by rfl) (by rfl) (by rfl))) (kn _ _ (known_const _)) rfl)
    · exact coreS _ _ _ _ _ _ _ (by rfl) (by rfl) (wants_none) (fun ρ w kn hs => o_move (kn _ _ (known_core 4 53 _ _ (of_decide_eq_true (by rfl)) (by rfl) (by rfl) (by rfl))))
    · exact coreS _ _ _ _ _ _ _ (by rfl) (by rfl) (wants_core 5 54 5 _ _ _ (by rfl) (by rfl) (by rfl) (known_core 5 54 _ _ (of_decide_eq_true (by rfl)) (by rfl) (by rfl) (by rfl)) _ (by rfl)) (fun ρ w kn hs => o_move (kn _ _ (F.old (by rfl) rfl)))
    · exact coreS _ _ _ _ _ _ _ (by rfl) (by rfl) (wants_core 5 54 5 _ _ _ (by rfl) (by rfl) (by rfl) (known_core 5 54 _ _ (of_decide_eq_true (by rfl)) (by rfl) (by rfl) (by rfl)) _ (by rfl)) (fun ρ w kn hs => o_bin (u := .int .i64 0) (v := .int .i64 0) (fun ρ hx hy => by simp only [execOp, hx, hy]; simp [go_sem]) (kn _ _ (known_core 6 55 _ _ (of_decide_eq_true (by rfl)) (by rfl) (by rfl) (by rfl))) (kn _ _ (known_const _)))
    · exact coreS _ _ _ _ _ _ _ (by rfl) (by rfl) (wants_none) (fun ρ w kn hs => o_pick (b := true) (r := .bool true) (kn _ _ (known_core 5 54 _ _ (of_decide_eq_true (by rfl)) (by rfl) (by rfl) (by rfl))) (kn _ _ (known_core 7 56 _ _ (of_decide_eq_true (by rfl)) (by rfl) (by rfl) (by rfl))) (kn _ _ (known_const _)) rfl)
    · exact coreS _ _ _ _ _ _ _ (by rfl) (by rfl) (wants_none) (fun ρ w kn hs => o_move (kn _ _ (known_core 8 57 _ _ (of_decide_eq_true (by rfl)) (by rfl) (by rfl) (by rfl))))
    · exact coreS _ _ _ _ _ _ _ (by rfl) (by rfl) (wants_core 9 58 9 _ _ _ (by rfl) (by rfl) (by rfl) (known_core 9 58 _ _ (of_decide_eq_true (by rfl)) (by rfl) (by rfl) (by rfl)) _ (by rfl)) (fun ρ w kn hs => o_loadN (kn _ _ (F.old (by rfl) rfl)) (hs.get 1 rfl))
    · exact coreS _ _ _ _ _ _ _ (by rfl) (by rfl) (wants_core 9 58 9 _ _ _ (by rfl) (by rfl) (by rfl) (known_core 9 58 _ _ (of_decide_eq_true (by rfl)) (by rfl) (by rfl) (by rfl)) _ (by rfl)) (fun ρ w kn hs => o_loadN (kn _ _ (F.old (by rfl) rfl)) (hs.get 2 rfl))
    · exact coreS _ _ _ _ _ _ _ (by rfl) (by rfl) (wants_core 9 58 9 _ _ _ (by rfl) (by rfl) (by rfl) (known_core 9 58 _ _ (of_decide_eq_true (by rfl)) (by rfl) (by rfl) (by rfl)) _ (by rfl)) (fun ρ w kn hs => o_eqlS (kn _ _ (known_core 10 59 _ _ (of_decide_eq_true (by rfl)) (by rfl) (by rfl) (by rfl))) (kn _ _ (known_core 11 60 _ _ (of_decide_eq_true (by rfl)) (by rfl) (by rfl) (by rfl))))
    · exact coreS _ _ _ _ _ _ _ (by rfl) (by rfl) (wants_none) (fun ρ w kn hs => o_pick (b := true) (r := .bool true) (kn _ _ (known_core 9 58 _ _ (of_decide_eq_true (by rfl)) (by rfl) (by rfl) (by rfl))) (kn _ _ (known_core 12 61 _ _ (of_decide_eq_true (by rfl)) (by rfl) (by rfl) (by rfl))) (kn _ _ (known_const _)) rfl)
    · exact coreS _ _ _ _ _ _ _ (by rfl) (by rfl) (wants_none) (fun ρ w kn hs => o_move (kn _ _ (known_core 13 62 _ _ (of_decide_eq_true (by rfl)) (by rfl) (by rfl) (by rfl))))
    · exact coreS _ _ _ _ _ _ _ (by rfl) (by rfl) (wants_core 14 63 14 _ _ _ (by rfl) (by rfl) (by rfl) (known_core 14 63 _ _ (of_decide_eq_true (by rfl)) (by rfl) (by rfl) (by rfl)) _ (by rfl)) (fun ρ w kn hs => o_loadN (kn _ _ (F.old (by rfl) rfl)) (hs.get 0 rfl))
    · exact core_pureAs _ (by rfl)
    · exact coreS _ _ _ _ _ _ _ (by rfl) (by rfl) (wants_core 14 63 14 _ _ _ (by rfl) (by rfl) (by rfl) (known_core 14 63 _ _ (of_decide_eq_true (by rfl)) (by rfl) (by rfl) (by rfl)) _ (by rfl)) (fun ρ w kn hs => o_eqlS (kn _ _ (known_core 15 64 _ _ (of_decide_eq_true (by rfl)) (by rfl) (by rfl) (by rfl))) (kn _ _ (known_core 16 65 _ _ (of_decide_eq_true (by rfl)) (by rfl) (by rfl) (by rfl))))
    · exact coreS _ _ _ _ _ _ _ (by rfl) (by rfl) (wants_none) (fun ρ w kn hs => o_pick (b := true) (r := .bool true) (kn _ _ (known_core 14 63 _ _ (of_decide_eq_true (by rfl)) (by rfl) (by rfl) (by rfl))) (kn _ _ (known_core 17 66 _ _ (of_decide_eq_true (by rfl)) (by rfl) (by rfl) (by rfl))) (kn _ _ (known_const _)) rfl)
    · exact coreS _ _ _ _ _ _ _ (by rfl) (by rfl) (wants_none) (fun ρ w kn hs => o_move (kn _ _ (known_core 18 67 _ _ (of_decide_eq_true (by rfl)) (by rfl) (by rfl) (by rfl))))
    · exact coreS _ _ _ _ _ _ _ (by rfl) (by rfl) (wants_core 19 68 19 _ _ _ (by rfl) (by rfl) (by rfl) (known_core 19 68 _ _ (of_decide_eq_true (by rfl)) (by rfl) (by rfl) (by rfl)) _ (by rfl)) (fun ρ w kn hs => o_loadN (kn _ _ (F.old (by rfl) rfl)) (hs.get 2 rfl))
    · exact core_pureAs _ (by rfl)
    · exact coreS _ _ _ _ _ _ _ (by rfl) (by rfl) (wants_core 19 68 19 _ _ _ (by rfl) (by rfl) (by rfl) (known_core 19 68 _ _ (of_decide_eq_true (by rfl)) (by rfl) (by rfl) (by rfl)) _ (by rfl)) (fun ρ w kn hs => o_eqlN hy (show 0 < 2 ^ 256 by decide) hz (kn _ _ (known_core 20 69 _ _ (of_decide_eq_true (by rfl)) (by rfl) (by rfl) (by rfl))) (kn _ _ (known_core 21 70 _ _ (of_decide_eq_true (by rfl)) (by rfl) (by rfl) (by rfl))))
    · exact coreS _ _ _ _ _ _ _ (by rfl) (by rfl) (wants_core 19 68 19 _ _ _ (by rfl) (by rfl) (by rfl) (known_core 19 68 _ _ (of_decide_eq_true (by rfl)) (by rfl) (by rfl) (by rfl)) _ (by rfl)) (fun ρ w kn hs => o_move (kn _ _ (known_core 22 71 _ _ (of_decide_eq_true (by rfl)) (by rfl) (by rfl) (by rfl))))
    · exact coreG_skip _ _ _ _ _ _ (by rfl) (by rfl) (wants_core 23 72 23 _ _ _ (by rfl) (by rfl) (by rfl) (known_core 23 72 _ _ (of_decide_eq_true (by rfl)) (by rfl) (by rfl) (by rfl)) _ (by rfl))
    · exact coreG_skip _ _ _ _ _ _ (by rfl) (by rfl) (wants_core 23 72 23 _ _ _ (by rfl) (by rfl) (by rfl) (known_core 23 72 _ _ (of_decide_eq_true (by rfl)) (by rfl) (by rfl) (by rfl)) _ (by rfl))
    · exact coreG_skip _ _ _ _ _ _ (by rfl) (by rfl) (wants_core 23 72 23 _ _ _ (by rfl) (by rfl) (by rfl) (known_core 23 72 _ _ (of_decide_eq_true (by rfl)) (by rfl) (by rfl) (by rfl)) _ (by rfl))
    · exact coreG_skip _ _ _ _ _ _ (by rfl) (by rfl) (wants_core 23 72 23 _ _ _ (by rfl) (by rfl) (by rfl) (known_core 23 72 _ _ (of_decide_eq_true (by rfl)) (by rfl) (by rfl) (by rfl)) _ (by rfl))
    · exact coreS _ _ _ _ _ _ _ (by rfl) (by rfl) (wants_core 19 68 19 _ _ _ (by rfl) (by rfl) (by rfl) (known_core 19 68 _ _ (of_decide_eq_true (by rfl)) (by rfl) (by rfl) (by rfl)) _ (by rfl)) (fun ρ w kn hs => o_pick (b := true) (r := .bool true) (kn _ _ (known_core 23 72 _ _ (of_decide_eq_true (by rfl)) (by rfl) (by rfl) (by rfl))) (kn _ _ (known_const _)) (kn _ _ (known_core 27 76 _ _ (of_decide_eq_true (by rfl)) (by rfl) (by rfl) (by rfl))) rfl)
    · exact coreS _ _ _ _ _ _ _ (by rfl) (by rfl) (wants_none) (fun ρ w kn hs => o_pick (b := true) (r := .bool true) (kn _ _ (known_core 19 68 _ _ (of_decide_eq_true (by rfl)) (by rfl) (by rfl) (by rfl))) (kn _ _ (known_core 28 77 _ _ (of_decide_eq_true (by rfl)) (by rfl) (by rfl) (by rfl))) (kn _ _ (known_const _)) rfl)
  · refine all_cons ?_ (all_cons ?_ (all_cons ?_ (all_cons ?_ (all_cons ?_ (all_cons ?_ (all_cons ?_ (all_cons ?_ (all_cons ?_ (all_cons ?_ (all_cons ?_ (all_cons ?_ (all_cons ?_ (all_cons ?_ (all_cons ?_ (all_cons ?_ (all_cons ?_ (all_cons ?_ (all_cons ?_ (all_cons ?_ (all_cons ?_ (all_cons ?_ (all_cons ?_ (all_cons ?_ (all_cons ?_ (all_cons ?_ (all_cons ?_ (all_cons ?_ (all_cons ?_ (all_cons ?_ (all_nil))))))))))))))))))))))))))))))
    · exact fun _ => coreG_call _ 26 _ _ [] _ _ _ _ _ _ _ (by rfl) Try.func26 (by kernel_rfl) (by rfl) (by rfl) (wants_none) .nil (alive9_any)
    · exact core_stepAs _ (by rfl)
    · exact core_stepAs _ (by rfl)
    · exact core_stepAs _ (by rfl)
    · exact core_stepAs _ (by rfl)
    · exact core_stepAs _ (by rfl)
    · exact core_stepAs _ (by rfl)
    · exact core_stepAs _ (by rfl)
    · exact core_stepAs _ (by rfl)
    · exact core_stepAs _ (by rfl)
    · exact core_stepAs _ (by rfl)
    · exact core_stepAs _ (by rfl)
    · exact core_stepAs _ (by rfl)
    · exact core_stepAs _ (by rfl)
    · exact core_stepAs _ (by rfl)
    · exact core_stepAs _ (by rfl)
    · exact fun _ => coreG_call _ 25 _ _ [.const (.int .u64 0)] _ _ _ _ _ _ _ (by rfl) Try.func25 (by kernel_rfl) (by rfl) (by rfl) (wants_core 14 63 14 _ _ _ (by rfl) (by rfl) (by rfl) (known_core 14 63 _ _ (of_decide_eq_true (by rfl)) (by rfl) (by rfl) (by rfl)) _ (by rfl)) (.cons (known_const _) .nil) ((fun w => of9_any 0 (by decide) w))
    · exact core_stepAs _ (by rfl)
    · exact core_stepAs _ (by rfl)
    · exact core_stepAs _ (by rfl)
    · exact core_stepAs _ (by rfl)
    · exact fun _ => coreG_call _ 25 _ _ [.const (.int .u64 0)] _ _ _ _ _ _ _ (by rfl) Try.func25 (by kernel_rfl) (by rfl) (by rfl) (wants_core 19 68 19 _ _ _ (by rfl) (by rfl) (by rfl) (known_core 19 68 _ _ (of_decide_eq_true (by rfl)) (by rfl) (by rfl) (by rfl)) _ (by rfl)) (.cons (known_const _) .nil) ((fun w => of9_any 0 (by decide) w))
    · exact core_stepAs _ (by rfl)
    · exact core_stepAs _ (by rfl)
    · exact core_stepAs _ (by rfl)
    · exact core_stepAs _ (by rfl)
    · exact core_stepAs _ (by rfl)
    · exact core_stepAs _ (by rfl)
    · exact core_stepAs _ (by rfl)
    · exact core_stepAs _ (by rfl)
  intro gs rs a w hgs hrs F HM
  obtain rfl := nl0 rs hrs
  clear hrs
  obtain rfl := nl0 gs hgs
  clear hgs
  refine sx_assign (i := 30) (d := 4) (x := .tmp 78) (v := .bool true) F (HM) (by kernel_rfl) (by rfl) (by rfl) (F.ev rfl) fun a F => ?_
  refine sx_done (by kernel_rfl) ?_ _
  repeat (first | refine ex_then ?_ | refine ex_block ?_ | refine wp_seq ?_ | refine wp_block ?_ | refine wp_skip ?_)
  refine wp_ret ?_
  repeat (first | refine ex_thenR ?_ | refine ex_blockR ?_)
  exact sx_ret F HM (res_tmp F rfl (s := 4) rfl)

set_option maxRecDepth 100000 in
set_option maxHeartbeats 8000000 in
theorem next_false (P Q G H x y v : Nat) (n : Int)
    (hQ : Q < 2 ^ 256)
    (hk : 0 < cmpN Q 1)
    (hm : ¬ n = 9223372036854775807)
    (hl : ¬ n = -9223372036854775808)
    (sa : ∀ w, Calls Try.prog 22 #[grp P Q G H, .int .i64 n] w fun e w' => e = .returned (num x) ∧ Below w.heap.size w w')
    (w1 : IntKind.i64.wrap (n + 1) = n + 1)
    (sb : ∀ w, Calls Try.prog 22 #[grp P Q G H, .int .i64 (n + 1)] w fun e w' => e = .returned (num y) ∧ Below w.heap.size w w')
    (c1 : ∀ w, Calls Try.prog 14 #[grp P Q G H, num x, num 1] w fun e w' => e = .returned (.tuple #[num y, .int .i64 0]) ∧ Below w.heap.size w w')
    (wn : IntKind.i64.wrap (-n) = -n)
    (sc : ∀ w, Calls Try.prog 22 #[grp P Q G H, .int .i64 (-n)] w fun e w' => e = .returned (num v) ∧ Below w.heap.size w w')
    (c2 : ∀ w, Calls Try.prog 14 #[grp P Q G H, num x, num v] w fun e w' => e = .returned (.tuple #[num 0, .int .i64 0]) ∧ Below w.heap.size w w')
    (hy : y < 2 ^ 256)
    (hz : decide (y = 0) = false)
    (ck : ∀ w, Calls Try.prog 24 #[num x, num y] w fun e w' => e = .returned (.int .i64 (cmpN x y)) ∧ Below w.heap.size w w')
    (hc : cmpN x y < 0)
    (w : World) : Calls Try.prog 6 #[grp P Q G H, .int .i64 n] w fun e w' => e = .returned (.bool true) ∧ Below w.heap.size w w' := by
  refine sx_enter (args := [grp P Q G H, .int .i64 n]) Try.func6 rfl Try.ntmps6 (by rfl) fun a F HM => ?_
  repeat (first | refine ex_then ?_ | refine ex_block ?_ | refine wp_seq ?_ | refine wp_block ?_ | refine wp_skip ?_)
  refine wp_region_lit ?_
  refine lx_new F HM (wanted_none rfl _) rfl (by rfl) (o_boxG (F.ev rfl)) fun a w gg F HM => ?_
  refine lx_value (v := .bool false) F (wanted_none rfl _) rfl (by rfl) (o_assign rfl) fun a F => ?_
  refine lx_nil ?_
  repeat (first | refine ex_then ?_ | refine ex_block ?_ | refine wp_seq ?_ | refine wp_block ?_ | refine wp_skip ?_)
  try simp only [List.append_eq, List.cons_append, List.nil_append]
  refine sx_drawn [⟨0, 11, [], .val (.pointer (some ⟨gg, 4, none⟩)), true⟩,
      ⟨1, 12, [0], .val (num Q), true⟩,
      ⟨2, 13, [1], .val (num 1), false⟩,
      ⟨3, 14, [1, 2], .val (.int .i64 (cmpN Q 1)), false⟩,
      ⟨4, 15, [3], .val (.bool false), true⟩,
      ⟨5, 16, [4], .val (.bool false), true⟩,
      ⟨6, 17, [5], .val (.int .i64 n), true⟩,
      ⟨7, 18, [5, 6], .val (.bool false), true⟩,
      ⟨8, 19, [5, 7], .val (.bool false), true⟩,
      ⟨9, 20, [8], .val (.bool false), true⟩,
      ⟨10, 21, [9], .val (.int .i64 n), true⟩,
      ⟨11, 22, [9, 10], .val (.bool false), true⟩,
      ⟨12, 23, [9, 11], .val (.bool false), true⟩] 0 F HM (by kernel_rfl) (by rfl) (by rfl) ?_ ?_ ?_ ?_ ?_ ?_ ?_
  · kernel_rfl
  · exact of_decide_eq_true (by kernel_rfl)
  · exact all_cons ⟨_, by rfl, by rfl⟩ (all_cons ⟨_, by rfl, by rfl⟩ (all_cons ⟨_, by rfl, by rfl⟩ (all_cons ⟨_, by rfl, by rfl⟩ (all_cons ⟨_, by rfl, by rfl⟩ (all_cons ⟨_, by rfl, by rfl⟩ (all_cons ⟨_, by rfl, by rfl⟩ (all_cons ⟨_, by rfl, by rfl⟩ (all_cons ⟨_, by rfl, by rfl⟩ (all_cons ⟨_, by rfl, by rfl⟩ (all_cons ⟨_, by rfl, by rfl⟩ (all_cons ⟨_, by rfl, by rfl⟩ (all_cons ⟨_, by rfl, by rfl⟩ (all_nil)))))))))))))
  · kernel_rfl
  · refine all_cons ?_ (all_cons ?_ (all_cons ?_ (all_cons ?_ (all_cons ?_ (all_cons ?_ (all_cons ?_ (all_cons ?_ (all_cons ?_ (all_cons ?_ (all_cons ?_ (all_cons ?_ (all_cons ?_ (all_nil)))))))))))))
    · exact coreS _ _ _ _ _ _ _ (by rfl) (by rfl) (wants_none) (fun ρ w kn hs => o_fieldG1 (kn _ _ (F.old (by rfl) rfl)))
    · exact coreS _ _ _ _ _ _ _ (by rfl) (by rfl) (wants_none) (fun ρ w kn hs => o_loadG1 (kn _ _ (known_core 0 11 _ _ (of_decide_eq_true (by rfl)) (by rfl) (by rfl) (by rfl))) (hs.get 0 rfl))
    · exact core_pureAs _ (by rfl)
    · exact core_pureAs _ (by rfl)
    · exact coreS _ _ _ _ _ _ _ (by rfl) (by rfl) (wants_none) (fun ρ w kn hs => o_bin (u := .int .i64 (cmpN Q 1)) (v := .int .i64 0) (fun ρ hx hy => by simp only [execOp, hx, hy]; simp [go_sem]; exact hk) (kn _ _ (known_core 3 14 _ _ (of_decide_eq_true (by rfl)) (by rfl) (by rfl) (by rfl))) (kn _ _ (known_const _)))
    · exact coreS _ _ _ _ _ _ _ (by rfl) (by rfl) (wants_none) (fun ρ w kn hs => o_move (kn _ _ (known_core 4 15 _ _ (of_decide_eq_true (by rfl)) (by rfl) (by rfl) (by rfl))))
    · exact coreS _ _ _ _ _ _ _ (by rfl) (by rfl) (wants_core 5 16 5 _ _ _ (by rfl) (by rfl) (by rfl) (known_core 5 16 _ _ (of_decide_eq_true (by rfl)) (by rfl) (by rfl) (by rfl)) _ (by rfl)) (fun ρ w kn hs => o_move (kn _ _ (F.old (by rfl) rfl)))
    · exact coreS _ _ _ _ _ _ _ (by rfl) (by rfl) (wants_core 5 16 5 _ _ _ (by rfl) (by rfl) (by rfl) (known_core 5 16 _ _ (of_decide_eq_true (by rfl)) (by rfl) (by rfl) (by rfl)) _ (by rfl)) (fun ρ w kn hs => o_bin (u := .int .i64 n) (v := .int .i64 9223372036854775807) (fun ρ hx hy => by simp only [execOp, hx, hy]; simp [go_sem]; omega) (kn _ _ (known_core 6 17 _ _ (of_decide_eq_true (by rfl)) (by rfl) (by rfl) (by rfl))) (kn _ _ (known_const _)))
    · exact coreS _ _ _ _ _ _ _ (by rfl) (by rfl) (wants_none) (fun ρ w kn hs => o_pick (b := false) (r := .bool false) (kn _ _ (known_core 5 16 _ _ (of_decide_eq_true (by rfl)) (by rfl) (by rfl) (by rfl))) (kn _ _ (known_const _)) (kn _ _ (known_core 7 18 _ _ (of_decide_eq_true (by rfl)) (by rfl) (by rfl) (by rfl))) rfl)
    · exact coreS _ _ _ _ _ _ _ (by rfl) (by rfl) (wants_none) (fun ρ w kn hs => o_move (kn _ _ (known_core 8 19 _ _ (of_decide_eq_true (by rfl)) (by rfl) (by rfl) (by rfl))))
    · exact coreS _ _ _ _ _ _ _ (by rfl) (by rfl) (wants_core 9 20 9 _ _ _ (by rfl) (by rfl) (by rfl) (known_core 9 20 _ _ (of_decide_eq_true (by rfl)) (by rfl) (by rfl) (by rfl)) _ (by rfl)) (fun ρ w kn hs => o_move (kn _ _ (F.old (by rfl) rfl)))
    · exact coreS _ _ _ _ _ _ _ (by rfl) (by rfl) (wants_core 9 20 9 _ _ _ (by rfl) (by rfl) (by rfl) (known_core 9 20 _ _ (of_decide_eq_true (by rfl)) (by rfl) (by rfl) (by rfl)) _ (by rfl)) (fun ρ w kn hs => o_bin (u := .int .i64 n) (v := .int .i64 (-9223372036854775808)) (fun ρ hx hy => by simp only [execOp, hx, hy]; simp [go_sem]; omega) (kn _ _ (known_core 10 21 _ _ (of_decide_eq_true (by rfl)) (by rfl) (by rfl) (by rfl))) (kn _ _ (known_const _)))
    · exact coreS _ _ _ _ _ _ _ (by rfl) (by rfl) (wants_none) (fun ρ w kn hs => o_pick (b := false) (r := .bool false) (kn _ _ (known_core 9 20 _ _ (of_decide_eq_true (by rfl)) (by rfl) (by rfl) (by rfl))) (kn _ _ (known_const _)) (kn _ _ (known_core 11 22 _ _ (of_decide_eq_true (by rfl)) (by rfl) (by rfl) (by rfl))) rfl)
  · refine all_cons ?_ (all_cons ?_ (all_cons ?_ (all_cons ?_ (all_cons ?_ (all_cons ?_ (all_cons ?_ (all_cons ?_ (all_cons ?_ (all_cons ?_ (all_cons ?_ (all_cons ?_ (all_cons ?_ (all_nil)))))))))))))
    · exact core_stepAs _ (by rfl)
    · exact core_stepAs _ (by rfl)
    · exact fun _ => coreG_call _ 25 _ _ [.const (.int .u64 1)] _ _ _ _ _ _ _ (by rfl) Try.func25 (by kernel_rfl) (by rfl) (by rfl) (wants_none) (.cons (known_const _) .nil) ((fun w => of9_any 1 (by decide) w))
    · exact fun _ => coreG_call _ 24 _ _ [.tmp 12, .tmp 13] _ _ _ _ _ _ _ (by rfl) Try.func24 (by kernel_rfl) (by rfl) (by rfl) (wants_none) (.cons (known_core 1 12 _ _ (of_decide_eq_true (by rfl)) (by rfl) (by rfl) (by rfl)) (.cons (known_core 2 13 _ _ (of_decide_eq_true (by rfl)) (by rfl) (by rfl) (by rfl)) .nil)) ((fun w => cmp_any Q 1 hQ (by decide) w))
    · exact core_stepAs _ (by rfl)
    · exact core_stepAs _ (by rfl)
    · exact core_stepAs _ (by rfl)
    · exact core_stepAs _ (by rfl)
    · exact core_stepAs _ (by rfl)
    · exact core_stepAs _ (by rfl)
    · exact core_stepAs _ (by rfl)
    · exact core_stepAs _ (by rfl)
    · exact core_stepAs _ (by rfl)
  intro gs rs a w hgs hrs F HM
  obtain rfl := nl0 rs hrs
  clear hrs
  obtain rfl := nl0 gs hgs
  clear hgs
  refine sx_done (by kernel_rfl) ?_ _
  repeat (first | refine ex_then ?_ | refine ex_block ?_ | refine wp_seq ?_ | refine wp_block ?_ | refine wp_skip ?_)
  refine wp_cond_false (F.ev rfl) ?_
  repeat (first | refine ex_then ?_ | refine ex_block ?_ | refine wp_seq ?_ | refine wp_block ?_ | refine wp_skip ?_)
  refine wp_region_lit ?_
  refine lx_value (v := grp P Q G H) F (wanted_none rfl _) rfl (by rfl) (o_loadG (F.ev rfl) (HM.get 0 rfl)) fun a F => ?_
  refine lx_value (v := .int .i64 n) F (wanted_none rfl _) rfl (by rfl) (o_move (F.ev rfl)) fun a F => ?_
  refine lx_call F (wanted_none rfl _) rfl (by rfl) (run_callF Try.func22 (by kernel_rfl) (by rfl) (.cons (F.ev rfl) (.cons (F.ev rfl) .nil)) _) (sa _) fun a w z F => ?_
  replace HM := HM.on z
  clear z
  refine lx_new F HM (wanted_none rfl _) rfl (by rfl) (o_allocN) fun a w gx F HM => ?_
  refine lx_store F HM (wanted_none rfl _) rfl (k := 0) rfl (o_storeN (F.ev rfl) (F.ev rfl) (HM.get 0 rfl)) (M2 := [(gx, 24, ncs x), (gg, 35, gcs P Q G H)]) rfl fun w HM => ?_
  refine lx_nil ?_
  repeat (first | refine ex_then ?_ | refine ex_block ?_ | refine wp_seq ?_ | refine wp_block ?_ | refine wp_skip ?_)
  refine wp_region_lit ?_
  refine lx_value (v := grp P Q G H) F (wanted_none rfl _) rfl (by rfl) (o_loadG (F.ev rfl) (HM.get 1 rfl)) fun a F => ?_
  refine lx_value (v := .int .i64 n) F (wanted_none rfl _) rfl (by rfl) (o_move (F.ev rfl)) fun a F => ?_
  refine lx_value (v := .int .i64 (n + 1)) F (wanted_none rfl _) rfl (by rfl) (o_bin2 (n := n) (m := 1) (k := n + 1) (fun ρ hx hy => by simp only [execOp, hx, hy]; simp [go_sem]; exact w1) (F.ev rfl) rfl) fun a F => ?_
  refine lx_call F (wanted_none rfl _) rfl (by rfl) (run_callF Try.func22 (by kernel_rfl) (by rfl) (.cons (F.ev rfl) (.cons (F.ev rfl) .nil)) _) (sb _) fun a w z F => ?_
  replace HM := HM.on z
  clear z
  refine lx_new F HM (wanted_none rfl _) rfl (by rfl) (o_allocN) fun a w gy F HM => ?_
  refine lx_store F HM (wanted_none rfl _) rfl (k := 0) rfl (o_storeN (F.ev rfl) (F.ev rfl) (HM.get 0 rfl)) (M2 := [(gy, 24, ncs y), (gx, 24, ncs x), (gg, 35, gcs P Q G H)]) rfl fun w HM => ?_
  refine lx_nil ?_
  repeat (first | refine ex_then ?_ | refine ex_block ?_ | refine wp_seq ?_ | refine wp_block ?_ | refine wp_skip ?_)
  try simp only [List.append_eq, List.cons_append, List.nil_append]
  refine sx_drawn [⟨0, 33, [], .val (grp P Q G H), true⟩,
      ⟨1, 34, [0], .val (num x), true⟩,
      ⟨7, 7, [], .cell 24 (ncs 0), false⟩,
      ⟨2, 35, [1], .val (num 1), false⟩,
      ⟨3, 36, [0, 1, 3], .val (.tuple #[num y, .int .i64 0]), false⟩,
      ⟨4, 32, [4], .val (.tuple #[num y, .int .i64 0]), true⟩,
      ⟨5, 37, [5], .val (num y), true⟩,
      ⟨6, 38, [5, 6], .val (.int .i64 0), true⟩] 2 F HM (by kernel_rfl) (by rfl) (by rfl) ?_ ?_ ?_ ?_ ?_ ?_ ?_
  · kernel_rfl
  · exact of_decide_eq_true (by kernel_rfl)
  · exact all_cons ⟨_, by rfl, by rfl⟩ (all_cons ⟨_, by rfl, by rfl⟩ (all_cons ⟨_, by rfl, by rfl⟩ (all_cons ⟨_, by rfl, by rfl⟩ (all_cons ⟨_, by rfl, by rfl⟩ (all_cons ⟨_, by rfl, by rfl⟩ (all_cons ⟨_, by rfl, by rfl⟩ (all_cons ⟨_, by rfl, by rfl⟩ (all_nil))))))))
  · kernel_rfl
  · refine all_cons ?_ (all_cons ?_ (all_cons ?_ (all_cons ?_ (all_cons ?_ (all_cons ?_ (all_cons ?_ (all_cons ?_ (all_nil))))))))
    · exact coreS _ _ _ _ _ _ _ (by rfl) (by rfl) (wants_none) (fun ρ w kn hs => o_loadG (kn _ _ (F.old (by rfl) rfl)) (hs.get 2 rfl))
    · exact coreS _ _ _ _ _ _ _ (by rfl) (by rfl) (wants_none) (fun ρ w kn hs => o_loadN (kn _ _ (F.old (by rfl) rfl)) (hs.get 1 rfl))
    · exact core_pureAs _ (by rfl)
    · exact core_pureAs _ (by rfl)
    · exact core_pureAs _ (by rfl)
    · exact coreS _ _ _ _ _ _ _ (by rfl) (by rfl) (wants_none) (fun ρ w kn hs => o_move (kn _ _ (known_core 4 36 _ _ (of_decide_eq_true (by rfl)) (by rfl) (by rfl) (by rfl))))
    · exact coreS _ _ _ _ _ _ _ (by rfl) (by rfl) (wants_none) (fun ρ w kn hs => o_extract (kn _ _ (known_core 5 32 _ _ (of_decide_eq_true (by rfl)) (by rfl) (by rfl) (by rfl))) rfl)
    · exact coreS _ _ _ _ _ _ _ (by rfl) (by rfl) (wants_none) (fun ρ w kn hs => o_extract (kn _ _ (known_core 5 32 _ _ (of_decide_eq_true (by rfl)) (by rfl) (by rfl) (by rfl))) rfl)
  · refine all_cons ?_ (all_cons ?_ (all_cons ?_ (all_cons ?_ (all_cons ?_ (all_cons ?_ (all_cons ?_ (all_cons ?_ (all_nil))))))))
    · exact core_stepAs _ (by rfl)
    · exact core_stepAs _ (by rfl)
    · exact fun _ => core_new _ _ _ _ _ _ _ _ (by rfl) (by rfl) (Nat.le_refl _) (fun ρ w => o_allocN)
    · exact fun _ => coreG_call _ 25 _ _ [.const (.int .u64 1)] _ _ _ _ _ _ _ (by rfl) Try.func25 (by kernel_rfl) (by rfl) (by rfl) (wants_none) (.cons (known_const _) .nil) ((fun w => of9_any 1 (by decide) w))
    · exact fun _ => coreG_call _ 14 _ _ [.tmp 33, .tmp 34, .tmp 35] _ _ _ _ _ _ _ (by rfl) Try.func14 (by kernel_rfl) (by rfl) (by rfl) (wants_none) (.cons (known_core 0 33 _ _ (of_decide_eq_true (by rfl)) (by rfl) (by rfl) (by rfl)) (.cons (known_core 1 34 _ _ (of_decide_eq_true (by rfl)) (by rfl) (by rfl) (by rfl)) (.cons (known_core 3 35 _ _ (of_decide_eq_true (by rfl)) (by rfl) (by rfl) (by rfl)) .nil))) (c1)
    · exact core_stepAs _ (by rfl)
    · exact core_stepAs _ (by rfl)
    · exact core_stepAs _ (by rfl)
  intro gs rs a w hgs hrs F HM
  obtain rfl := nl0 rs hrs
  clear hrs
  obtain ⟨gn, rfl⟩ := nl1 gs hgs
  clear hgs
  refine sx_store (i := 8) HM (by kernel_rfl) (by rfl) rfl rfl (k := 0) rfl (o_storeN (F.ev rfl) (F.ev rfl) (HM.get 0 rfl)) (M2 := [(gn, 24, ncs y), (gy, 24, ncs y), (gx, 24, ncs x), (gg, 35, gcs P Q G H)]) rfl (fun _ h => h.tail (A := [(gn, 24, ncs y)])) fun w HM => ?_
  refine sx_assign (i := 9) (d := 8) (x := .tmp 38) (v := .int .i64 0) F (HM.tail (A := [(gn, 24, ncs y)])) (by kernel_rfl) (by rfl) (by rfl) (F.ev rfl) fun a F => ?_
  refine sx_done (by kernel_rfl) ?_ _
  repeat (first | refine ex_then ?_ | refine ex_block ?_ | refine wp_seq ?_ | refine wp_block ?_ | refine wp_skip ?_)
  try simp only [List.append_eq, List.cons_append, List.nil_append]
  refine sx_drawn [⟨0, 40, [], .val (grp P Q G H), true⟩,
      ⟨1, 41, [0], .val (num x), true⟩,
      ⟨2, 42, [1], .val (grp P Q G H), true⟩,
      ⟨3, 43, [2], .val (.int .i64 n), true⟩,
      ⟨4, 44, [3], .val (.int .i64 (-n)), true⟩,
      ⟨10, 9, [], .cell 24 (ncs 0), false⟩,
      ⟨5, 45, [2, 4], .val (num v), false⟩,
      ⟨6, 46, [0, 1, 6], .val (.tuple #[num 0, .int .i64 0]), false⟩,
      ⟨7, 39, [7], .val (.tuple #[num 0, .int .i64 0]), true⟩,
      ⟨8, 47, [8], .val (num 0), true⟩,
      ⟨9, 48, [8, 9], .val (.int .i64 0), true⟩] 2 F HM (by kernel_rfl) (by rfl) (by rfl) ?_ ?_ ?_ ?_ ?_ ?_ ?_
  · kernel_rfl
  · exact of_decide_eq_true (by kernel_rfl)
  · exact all_cons ⟨_, by rfl, by rfl⟩ (all_cons ⟨_, by rfl, by rfl⟩ (all_cons ⟨_, by rfl, by rfl⟩ (all_cons ⟨_, by rfl, by rfl⟩ (all_cons ⟨_, by rfl, by rfl⟩ (all_cons ⟨_, by rfl, by rfl⟩ (all_cons ⟨_, by rfl, by rfl⟩ (all_cons ⟨_, by rfl, by rfl⟩ (all_cons ⟨_, by rfl, by rfl⟩ (all_cons ⟨_, by rfl, by rfl⟩ (all_cons ⟨_, by rfl, by rfl⟩ (all_nil)))))))))))
  · kernel_rfl
  · refine all_cons ?_ (all_cons ?_ (all_cons ?_ (all_cons ?_ (all_cons ?_ (all_cons ?_ (all_cons ?_ (all_cons ?_ (all_cons ?_ (all_cons ?_ (all_cons ?_ (all_nil)))))))))))
    · exact coreS _ _ _ _ _ _ _ (by rfl) (by rfl) (wants_none) (fun ρ w kn hs => o_loadG (kn _ _ (F.old (by rfl) rfl)) (hs.get 3 rfl))
    · exact coreS _ _ _ _ _ _ _ (by rfl) (by rfl) (wants_none) (fun ρ w kn hs => o_loadN (kn _ _ (F.old (by rfl) rfl)) (hs.get 2 rfl))
    · exact coreS _ _ _ _ _ _ _ (by rfl) (by rfl) (wants_none) (fun ρ w kn hs => o_loadG (kn _ _ (F.old (by rfl) rfl)) (hs.get 3 rfl))
    · exact coreS _ _ _ _ _ _ _ (by rfl) (by rfl) (wants_none) (fun ρ w kn hs => o_move (kn _ _ (F.old (by rfl) rfl)))
    · exact coreS _ _ _ _ _ _ _ (by rfl) (by rfl) (wants_none) (fun ρ w kn hs => o_negI wn (kn _ _ (known_core 3 43 _ _ (of_decide_eq_true (by rfl)) (by rfl) (by rfl) (by rfl))))
    · exact core_pureAs _ (by rfl)
    · exact core_pureAs _ (by rfl)
    · exact core_pureAs _ (by rfl)
    · exact coreS _ _ _ _ _ _ _ (by rfl) (by rfl) (wants_none) (fun ρ w kn hs => o_move (kn _ _ (known_core 7 46 _ _ (of_decide_eq_true (by rfl)) (by rfl) (by rfl) (by rfl))))
    · exact coreS _ _ _ _ _ _ _ (by rfl) (by rfl) (wants_none) (fun ρ w kn hs => o_extract (kn _ _ (known_core 8 39 _ _ (of_decide_eq_true (by rfl)) (by rfl) (by rfl) (by rfl))) rfl)
    · exact coreS _ _ _ _ _ _ _ (by rfl) (by rfl) (wants_none) (fun ρ w kn hs => o_extract (kn _ _ (known_core 8 39 _ _ (of_decide_eq_true (by rfl)) (by rfl) (by rfl) (by rfl))) rfl)
  · refine all_cons ?_ (all_cons ?_ (all_cons ?_ (all_cons ?_ (all_cons ?_ (all_cons ?_ (all_cons ?_ (all_cons ?_ (all_cons ?_ (all_cons ?_ (all_cons ?_ (all_nil)))))))))))
    · exact core_stepAs _ (by rfl)
    · exact core_stepAs _ (by rfl)
    · exact core_stepAs _ (by rfl)
    · exact core_stepAs _ (by rfl)
    · exact core_stepAs _ (by rfl)
    · exact fun _ => core_new _ _ _ _ _ _ _ _ (by rfl) (by rfl) (Nat.le_refl _) (fun ρ w => o_allocN)
    · exact fun _ => coreG_call _ 22 _ _ [.tmp 42, .tmp 44] _ _ _ _ _ _ _ (by rfl) Try.func22 (by kernel_rfl) (by rfl) (by rfl) (wants_none) (.cons (known_core 2 42 _ _ (of_decide_eq_true (by rfl)) (by rfl) (by rfl) (by rfl)) (.cons (known_core 4 44 _ _ (of_decide_eq_true (by rfl)) (by rfl) (by rfl) (by rfl)) .nil)) (sc)
    · exact fun _ => coreG_call _ 14 _ _ [.tmp 40, .tmp 41, .tmp 45] _ _ _ _ _ _ _ (by rfl) Try.func14 (by kernel_rfl) (by rfl) (by rfl) (wants_none) (.cons (known_core 0 40 _ _ (of_decide_eq_true (by rfl)) (by rfl) (by rfl) (by rfl)) (.cons (known_core 1 41 _ _ (of_decide_eq_true (by rfl)) (by rfl) (by rfl) (by rfl)) (.cons (known_core 6 45 _ _ (of_decide_eq_true (by rfl)) (by rfl) (by rfl) (by rfl)) .nil))) (c2)
    · exact core_stepAs _ (by rfl)
    · exact core_stepAs _ (by rfl)
    · exact core_stepAs _ (by rfl)
  intro gs rs a w hgs hrs F HM
  obtain rfl := nl0 rs hrs
  clear hrs
  obtain ⟨gs, rfl⟩ := nl1 gs hgs
  clear hgs
  refine sx_store (i := 11) HM (by kernel_rfl) (by rfl) rfl rfl (k := 0) rfl (o_storeN (F.ev rfl) (F.ev rfl) (HM.get 0 rfl)) (M2 := [(gs, 24, ncs 0), (gn, 24, ncs y), (gy, 24, ncs y), (gx, 24, ncs x), (gg, 35, gcs P Q G H)]) rfl (fun _ h => h.tail (A := [(gs, 24, ncs 0)])) fun w HM => ?_
  refine sx_assign (i := 12) (d := 10) (x := .tmp 48) (v := .int .i64 0) F (HM.tail (A := [(gs, 24, ncs 0)])) (by kernel_rfl) (by rfl) (by rfl) (F.ev rfl) fun a F => ?_
  refine sx_done (by kernel_rfl) ?_ _
  repeat (first | refine ex_then ?_ | refine ex_block ?_ | refine wp_seq ?_ | refine wp_block ?_ | refine wp_skip ?_)
  try simp only [List.append_eq, List.cons_append, List.nil_append]
  refine sx_drawn [⟨0, 49, [], .val (.bool true), false⟩,
      ⟨1, 50, [0], .val (.bool true), true⟩,
      ⟨2, 51, [1], .val (.int .i64 0), true⟩,
      ⟨3, 52, [1, 2], .val (.bool true), true⟩,
      ⟨4, 53, [1, 3], .val (.bool true), true⟩,
      ⟨5, 54, [4], .val (.bool true), true⟩,
      ⟨6, 55, [5], .val (.int .i64 0), true⟩,
      ⟨7, 56, [5, 6], .val (.bool true), true⟩,
      ⟨8, 57, [5, 7], .val (.bool true), true⟩,
      ⟨9, 58, [8], .val (.bool true), true⟩,
      ⟨10, 59, [9], .val (num y), true⟩,
      ⟨11, 60, [9, 10], .val (num y), true⟩,
      ⟨12, 61, [9, 10, 11], .val (.bool true), true⟩,
      ⟨13, 62, [9, 12], .val (.bool true), true⟩,
      ⟨14, 63, [13], .val (.bool true), true⟩,
      ⟨15, 64, [14], .val (num 0), true⟩,
      ⟨16, 65, [14, 15], .val (num 0), false⟩,
      ⟨17, 66, [14, 15, 16], .val (.bool true), true⟩,
      ⟨18, 67, [14, 17], .val (.bool true), true⟩,
      ⟨19, 68, [18], .val (.bool true), true⟩,
      ⟨20, 69, [19], .val (num y), true⟩,
      ⟨21, 70, [19, 20], .val (num 0), false⟩,
      ⟨22, 71, [19, 20, 21], .val (.bool false), true⟩,
      ⟨23, 72, [19, 22], .val (.bool false), true⟩,
      ⟨24, 73, [23], .val (num x), true⟩,
      ⟨25, 74, [23, 24], .val (num y), true⟩,
      ⟨26, 75, [23, 24, 25], .val (.int .i64 (cmpN x y)), false⟩,
      ⟨27, 76, [23, 26], .val (.bool true), true⟩,
      ⟨28, 77, [19, 23, 27], .val (.bool true), true⟩,
      ⟨29, 78, [19, 28], .val (.bool true), true⟩] 1 F HM (by kernel_rfl) (by rfl) (by rfl) ?_ ?_ ?_ ?_ ?_ ?_ ?_
  · kernel_rfl
  · exact of_decide_eq_true (by kernel_rfl)
  · exact all_cons ⟨_, by rfl, by rfl⟩ (all_cons ⟨_, by rfl, by rfl⟩ (all_cons ⟨_, by rfl, by rfl⟩ (all_cons ⟨_, by rfl, by rfl⟩ (all_cons ⟨_, by rfl, by rfl⟩ (all_cons ⟨_, by rfl, by rfl⟩ (all_cons ⟨_, by rfl, by rfl⟩ (all_cons ⟨_, by rfl, by rfl⟩ (all_cons ⟨_, by rfl, by rfl⟩ (all_cons ⟨_, by rfl, by rfl⟩ (all_cons ⟨_, by rfl, by rfl⟩ (all_cons ⟨_, by rfl, by rfl⟩ (all_cons ⟨_, by rfl, by rfl⟩ (all_cons ⟨_, by rfl, by rfl⟩ (all_cons ⟨_, by rfl, by rfl⟩ (all_cons ⟨_, by rfl, by rfl⟩ (all_cons ⟨_, by rfl, by rfl⟩ (all_cons ⟨_, by rfl, by rfl⟩ (all_cons ⟨_, by rfl, by rfl⟩ (all_cons ⟨_, by rfl, by rfl⟩ (all_cons ⟨_, by rfl, by rfl⟩ (all_cons ⟨_, by rfl, by rfl⟩ (all_cons ⟨_, by rfl, by rfl⟩ (all_cons ⟨_, by rfl, by rfl⟩ (all_cons ⟨_, by rfl, by rfl⟩ (all_cons ⟨_, by rfl, by rfl⟩ (all_cons ⟨_, by rfl, by rfl⟩ (all_cons ⟨_, by rfl, by rfl⟩ (all_cons ⟨_, by rfl, by rfl⟩ (all_cons ⟨_, by rfl, by rfl⟩ (all_nil))))))))))))))))))))))))))))))
  · kernel_rfl
  · refine all_cons ?_ (all_cons ?_ (all_cons ?_ (all_cons ?_ (all_cons ?_ (all_cons ?_ (all_cons ?_ (all_cons ?_ (all_cons ?_ (all_cons ?_ (all_cons ?_ (all_cons ?_ (all_cons ?_ (all_cons ?_ (all_cons ?_ (all_cons ?_ (all_cons ?_ (all_cons ?_ (all_cons ?_ (all_cons ?_ (all_cons ?_ (all_cons ?_ (all_cons ?_ (all_cons ?_ (all_cons ?_ (all_cons ?_ (all_cons ?_ (all_cons ?_ (all_cons ?_ (all_cons ?_ (all_nil))))))))))))))))))))))))))))))
    · exact core_pureAs _ (by rfl)
    · exact coreS _ _ _ _ _ _ _ (by rfl) (by rfl) (wants_none) (fun ρ w kn hs => o_move (kn _ _ (known_core 0 49 _ _ (of_decide_eq_true (by rfl)) (by rfl) (by rfl) (by rfl))))
    · exact coreS _ _ _ _ _ _ _ (by rfl) (by rfl) (wants_core 1 50 1 _ _ _ (by rfl) (by rfl) (by rfl) (known_core 1 50 _ _ (of_decide_eq_true (by rfl)) (by rfl) (by rfl) (by rfl)) _ (by rfl)) (fun ρ w kn hs => o_move (kn _ _ (F.old (by rfl) rfl)))
    · exact coreS _ _ _ _ _ _ _ (by rfl) (by rfl) (wants_core 1 50 1 _ _ _ (by rfl) (by rfl) (by rfl) (known_core 1 50 _ _ (of_decide_eq_true (by rfl)) (by rfl) (by rfl) (by rfl)) _ (by rfl)) (fun ρ w kn hs => o_bin (u := .int .i64 0) (v := .int .i64 0) (fun ρ hx hy => by simp only [execOp, hx, hy]; simp [go_sem]) (kn _ _ (known_core 2 51 _ _ (of_decide_eq_true (by rfl)) (by rfl) (by rfl) (by rfl))) (kn _ _ (known_const _)))
    · exact coreS _ _ _ _ _ _ _ (by rfl) (by rfl) (wants_none) (fun ρ w kn hs => o_pick (b := true) (r := .bool true) (kn _ _ (known_core 1 50 _ _ (of_decide_eq_true (by rfl)) (by rfl) (by rfl) (by rfl))) (kn _ _ (known_core 3 52 _ _ (of_decide_eq_true (by rfl)) (by rfl) (by rfl) (by rfl))) (kn _ _ (known_const _)) rfl)
    · exact coreS _ _ _ _ _ _ _ (by rfl) (by rfl) (wants_none) (fun ρ w kn hs => o_move (kn _ _ (known_core 4 53 _ _ (of_decide_eq_true (by rfl)) (by rfl) (by rfl) (by rfl))))
    · exact coreS _ _ _ _ _ _ _ (by rfl) (by rfl) (wants_core 5 54 5 _ _ _ (by rfl) (by rfl) (by rfl) (known_core 5 54 _ _ (of_decide_eq_true (by rfl)) (by rfl) (by rfl) (by rfl)) _ (by rfl)) (fun ρ w kn hs => o_move (kn _ _ (F.old (by rfl) rfl)))
    · exact coreS _ _ _ _ _ _ _ (by rfl) (by rfl) (wants_core 5 54 5 _ _ _ (by rfl) (by rfl) (by rfl) (known_core 5 54 _ _ (of_decide_eq_true (by rfl)) (by rfl) (by rfl) (by rfl)) _ (by rfl)) (fun ρ w kn hs => o_bin (u := .int .i64 0) (v := .int .i64 0) (fun ρ hx hy => by simp only [execOp, hx, hy]; simp [go_sem]) (kn _ _ (known_core 6 55 _ _ (of_decide_eq_true (by rfl)) (by rfl) (by rfl) (by rfl))) (kn _ _ (known_const _)))
    · exact coreS _ _ _ _ _ _ _ (by rfl) (by rfl) (wants_none) (fun ρ w kn hs => o_pick (b := true) (r := .bool true) (kn _ _ (known_core 5 54 _ _ (of_decide_eq_true (by rfl)) (by rfl) (by rfl) (by rfl))) (kn _ _ (known_core 7 56 _ _ (of_decide_eq_true (by rfl)) (by rfl) (by rfl) (by rfl))) (kn _ _ (known_const _)) rfl)
    · exact coreS _ _ _ _ _ _ _ (by rfl) (by rfl) (wants_none) (fun ρ w kn hs => o_move (kn _ _ (known_core 8 57 _ _ (of_decide_eq_true (by rfl)) (by rfl) (by rfl) (by rfl))))
    · exact coreS _ _ _ _ _ _ _ (by rfl) (by rfl) (wants_core 9 58 9 _ _ _ (by rfl) (by rfl) (by rfl) (known_core 9 58 _ _ (of_decide_eq_true (by rfl)) (by rfl) (by rfl) (by rfl)) _ (by rfl)) (fun ρ w kn hs => o_loadN (kn _ _ (F.old (by rfl) rfl)) (hs.get 1 rfl))
    · exact coreS _ _ _ _ _ _ _ (by rfl) (by rfl) (wants_core 9 58 9 _ _ _ (by rfl) (by rfl) (by rfl) (known_core 9 58 _ _ (of_decide_eq_true (by rfl)) (by rfl) (by rfl) (by rfl)) _ (by rfl)) (fun ρ w kn hs => o_loadN (kn _ _ (F.old (by rfl) rfl)) (hs.get 2 rfl))
    · exact coreS _ _ _ _ _ _ _ (by rfl) (by rfl) (wants_core 9 58 9 _ _ _ (by rfl) (by rfl) (by rfl) (known_core 9 58 _ _ (of_decide_eq_true (by rfl)) (by rfl) (by rfl) (by rfl)) _ (by rfl)) (fun ρ w kn hs => o_eqlS (kn _ _ (known_core 10 59 _ _ (of_decide_eq_true (by rfl)) (by rfl) (by rfl) (by rfl))) (kn _ _ (known_core 11 60 _ _ (of_decide_eq_true (by rfl)) (by rfl) (by rfl) (by rfl))))
    · exact coreS _ _ _ _ _ _ _ (by rfl) (by rfl) (wants_none) (fun ρ w kn hs => o_pick (b := true) (r := .bool true) (kn _ _ (known_core 9 58 _ _ (of_decide_eq_true (by rfl)) (by rfl) (by rfl) (by rfl))) (kn _ _ (known_core 12 61 _ _ (of_decide_eq_true (by rfl)) (by rfl) (by rfl) (by rfl))) (kn _ _ (known_const _)) rfl)
    · exact coreS _ _ _ _ _ _ _ (by rfl) (by rfl) (wants_none) (fun ρ w kn hs => o_move (kn _ _ (known_core 13 62 _ _ (of_decide_eq_true (by rfl)) (by rfl) (by rfl) (by rfl))))
    · exact coreS _ _ _ _ _ _ _ (by rfl) (by rfl) (wants_core 14 63 14 _ _ _ (by rfl) (by rfl) (by rfl) (known_core 14 63 _ _ (of_decide_eq_true (by rfl)) (by rfl) (by rfl) (by rfl)) _ (by rfl)) (fun ρ w kn hs => o_loadN (kn _ _ (F.old (by rfl) rfl)) (hs.get 0 rfl))
    · exact core_pureAs _ (by rfl)
    · exact coreS _ _ _ _ _ _ _ (by rfl) (by rfl) (wants_core 14 63 14 _ _ _ (by rfl) (by rfl) (by rfl) (known_core 14 63 _ _ (of_decide_eq_true (by rfl)) (by rfl) (by rfl) (by rfl)) _ (by rfl)) (fun ρ w kn hs => o_eqlS (kn _ _ (known_core 15 64 _ _ (of_decide_eq_true (by rfl)) (by rfl) (by rfl) (by rfl))) (kn _ _ (known_core 16 65 _ _ (of_decide_eq_true (by rfl)) (by rfl) (by rfl) (by rfl))))
    · exact coreS _ _ _ _ _ _ _ (by rfl) (by rfl) (wants_none) (fun ρ w kn hs => o_pick (b := true) (r := .bool true) (kn _ _ (known_core 14 63 _ _ (of_decide_eq_true (by rfl)) (by rfl) (by rfl) (by rfl))) (kn _ _ (known_core 17 66 _ _ (of_decide_eq_true (by rfl)) (by rfl) (by rfl) (by rfl))) (kn _ _ (known_const _)) rfl)
    · exact coreS _ _ _ _ _ _ _ (by rfl) (by rfl) (wants_none) (fun ρ w kn hs => o_move (kn _ _ (known_core 18 67 _ _ (of_decide_eq_true (by rfl)) (by rfl) (by rfl) (by rfl))))
    · exact coreS _ _ _ _ _ _ _ (by rfl) (by rfl) (wants_core 19 68 19 _ _ _ (by rfl) (by rfl) (by rfl) (known_core 19 68 _ _ (of_decide_eq_true (by rfl)) (by rfl) (by rfl) (by rfl)) _ (by rfl)) (fun ρ w kn hs => o_loadN (kn _ _ (F.old (by rfl) rfl)) (hs.get 2 rfl))
    · exact core_pureAs _ (by rfl)
    · exact coreS _ _ _ _ _ _ _ (by rfl) (by rfl) (wants_core 19 68 19 _ _ _ (by rfl) (by rfl) (by rfl) (known_core 19 68 _ _ (of_decide_eq_true (by rfl)) (by rfl) (by rfl) (by rfl)) _ (by rfl)) (fun ρ w kn hs => o_eqlN hy (show 0 < 2 ^ 256 by decide) hz (kn _ _ (known_core 20 69 _ _ (of_decide_eq_true (by rfl)) (by rfl) (by rfl) (by rfl))) (kn _ _ (known_core 21 70 _ _ (of_decide_eq_true (by rfl)) (by rfl) (by rfl) (by rfl))))
    · exact coreS _ _ _ _ _ _ _ (by rfl) (by rfl) (wants_core 19 68 19 _ _ _ (by rfl) (by rfl) (by rfl) (known_core 19 68 _ _ (of_decide_eq_true (by rfl)) (by rfl) (by rfl) (by rfl)) _ (by rfl)) (fun ρ w kn hs => o_move (kn _ _ (known_core 22 71 _ _ (of_decide_eq_true (by rfl)) (by rfl) (by rfl) (by rfl))))
    · exact coreS _ _ _ _ _ _ _ (by rfl) (by rfl) (wants_core 23 72 23 _ _ _ (by rfl) (by rfl) (by rfl) (known_core 23 72 _ _ (of_decide_eq_true (by rfl)) (by rfl) (by rfl) (by rfl)) _ (by rfl)) (fun ρ w kn hs => o_loadN (kn _ _ (F.old (by rfl) rfl)) (hs.get 3 rfl))
    · exact coreS _ _ _ _ _ _ _ (by rfl) (by rfl) (wants_core 23 72 23 _ _ _ (by rfl) (by rfl) (by rfl) (known_core 23 72 _ _ (of_decide_eq_true (by rfl)) (by rfl) (by rfl) (by rfl)) _ (by rfl)) (fun ρ w kn hs => o_loadN (kn _ _ (F.old (by rfl) rfl)) (hs.get 2 rfl))
    · exact core_pureAs _ (by rfl)
    · exact coreS _ _ _ _ _ _ _ (by rfl) (by rfl) (wants_core 23 72 23 _ _ _ (by rfl) (by rfl) (by rfl) (known_core 23 72 _ _ (of_decide_eq_true (by rfl)) (by rfl) (by rfl) (by rfl)) _ (by rfl)) (fun ρ w kn hs => o_bin (u := .int .i64 (cmpN x y)) (v := .int .i64 0) (fun ρ hx hy => by simp only [execOp, hx, hy]; simp [go_sem]; exact hc) (kn _ _ (known_core 26 75 _ _ (of_decide_eq_true (by rfl)) (by rfl) (by rfl) (by rfl))) (kn _ _ (known_const _)))
    · exact coreS _ _ _ _ _ _ _ (by rfl) (by rfl) (wants_core 19 68 19 _ _ _ (by rfl) (by rfl) (by rfl) (known_core 19 68 _ _ (of_decide_eq_true (by rfl)) (by rfl) (by rfl) (by rfl)) _ (by rfl)) (fun ρ w kn hs => o_pick (b := false) (r := .bool true) (kn _ _ (known_core 23 72 _ _ (of_decide_eq_true (by rfl)) (by rfl) (by rfl) (by rfl))) (kn _ _ (known_const _)) (kn _ _ (known_core 27 76 _ _ (of_decide_eq_true (by rfl)) (by rfl) (by rfl) (by rfl))) rfl)
    · exact coreS _ _ _ _ _ _ _ (by rfl) (by rfl) (wants_none) (fun ρ w kn hs => o_pick (b := true) (r := .bool true) (kn _ _ (known_core 19 68 _ _ (of_decide_eq_true (by rfl)) (by rfl) (by rfl) (by rfl))) (kn _ _ (known_core 28 77 _ _ (of_decide_eq_true (by rfl)) (by rfl) (by rfl) (by rfl))) (kn _ _ (known_const _)) rfl)
  · refine all_cons ?_ (all_cons ?_ (all_cons ?_ (all_cons ?_ (all_cons ?_ (all_cons ?_ (all_cons ?_ (all_cons ?_ (all_cons ?_ (all_cons ?_ (all_cons ?_ (all_cons ?_ (all_cons ?_ (all_cons ?_ (all_cons ?_ (all_cons ?_ (all_cons ?_ (all_cons ?_ (all_cons ?_ (all_cons ?_ (all_cons ?_ (all_cons ?_ (all_cons ?_ (all_cons ?_ (all_cons ?_ (all_cons ?_ (all_cons ?_ (all_cons ?_ (all_cons ?_ (all_cons ?_ (all_nil))))))))))))))))))))))))))))))
    · exact fun _ => coreG_call _ 26 _ _ [] _ _ _ _ _ _ _ (by rfl) Try.func26 (by kernel_rfl) (by rfl) (by rfl) (wants_none) .nil (alive9_any)
    · exact core_stepAs _ (by rfl)
    · exact core_stepAs _ (by rfl)
    · exact core_stepAs _ (by rfl)
    · exact core_stepAs _ (by rfl)
    · exact core_stepAs _ (by rfl)
    · exact core_stepAs _ (by rfl)
    · exact core_stepAs _ (by rfl)
    · exact core_stepAs _ (by rfl)
    · exact core_stepAs _ (by rfl)
    · exact core_stepAs _ (by rfl)
    · exact core_stepAs _ (by rfl)
    · exact core_stepAs _ (by rfl)
    · exact core_stepAs _ (by rfl)
    · exact core_stepAs _ (by rfl)
    · exact core_stepAs _ (by rfl)
    · exact fun _ => coreG_call _ 25 _ _ [.const (.int .u64 0)] _ _ _ _ _ _ _ (by rfl) Try.func25 (by kernel_rfl) (by rfl) (by rfl) (wants_core 14 63 14 _ _ _ (by rfl) (by rfl) (by rfl) (known_core 14 63 _ _ (of_decide_eq_true (by rfl)) (by rfl) (by rfl) (by rfl)) _ (by rfl)) (.cons (known_const _) .nil) ((fun w => of9_any 0 (by decide) w))
    · exact core_stepAs _ (by rfl)
    · exact core_stepAs _ (by rfl)
    · exact core_stepAs _ (by rfl)
    · exact core_stepAs _ (by rfl)
    · exact fun _ => coreG_call _ 25 _ _ [.const (.int .u64 0)] _ _ _ _ _ _ _ (by rfl) Try.func25 (by kernel_rfl) (by rfl) (by rfl) (wants_core 19 68 19 _ _ _ (by rfl) (by rfl) (by rfl) (known_core 19 68 _ _ (of_decide_eq_true (by rfl)) (by rfl) (by rfl) (by rfl)) _ (by rfl)) (.cons (known_const _) .nil) ((fun w => of9_any 0 (by decide) w))
    · exact core_stepAs _ (by rfl)
    · exact core_stepAs _ (by rfl)
    · exact core_stepAs _ (by rfl)
    · exact core_stepAs _ (by rfl)
    · exact fun _ => coreG_call _ 24 _ _ [.tmp 73, .tmp 74] _ _ _ _ _ _ _ (by rfl) Try.func24 (by kernel_rfl) (by rfl) (by rfl) (wants_core 23 72 23 _ _ _ (by rfl) (by rfl) (by rfl) (known_core 23 72 _ _ (of_decide_eq_true (by rfl)) (by rfl) (by rfl) (by rfl)) _ (by rfl)) (.cons (known_core 24 73 _ _ (of_decide_eq_true (by rfl)) (by rfl) (by rfl) (by rfl)) (.cons (known_core 25 74 _ _ (of_decide_eq_true (by rfl)) (by rfl) (by rfl) (by rfl)) .nil)) (ck)
    · exact core_stepAs _ (by rfl)
    · exact core_stepAs _ (by rfl)
    · exact core_stepAs _ (by rfl)
  intro gs rs a w hgs hrs F HM
  obtain rfl := nl0 rs hrs
  clear hrs
  obtain rfl := nl0 gs hgs
  clear hgs
  refine sx_assign (i := 30) (d := 4) (x := .tmp 78) (v := .bool true) F (HM) (by kernel_rfl) (by rfl) (by rfl) (F.ev rfl) fun a F => ?_
  refine sx_done (by kernel_rfl) ?_ _
  repeat (first | refine ex_then ?_ | refine ex_block ?_ | refine wp_seq ?_ | refine wp_block ?_ | refine wp_skip ?_)
  refine wp_ret ?_
  repeat (first | refine ex_thenR ?_ | refine ex_blockR ?_)
  exact sx_ret F HM (res_tmp F rfl (s := 4) rfl)

theorem next_walk (P Q G H : Nat) (n : Int) (hQ : Q < 2 ^ 256) (hn1 : -9223372036854775808 ≤ n) (hn2 : n < 9223372036854775808) (w : World) : Calls Try.prog 6 #[grp P Q G H, .int .i64 n] w fun e w' => e = .returned (.bool true) ∧ Below w.heap.size w w' := by
  by_cases h1 : 1 < Q
  case neg => exact next_low P Q G H n hQ (cmpN_le (by omega)) w
  have hk := cmpN_pos h1
  by_cases hm : n = 9223372036854775807
  · exact next_max P Q G H n hQ hk hm w
  by_cases hl : n = -9223372036854775808
  · exact next_min P Q G H n hQ hk hm hl w
  have wr : ∀ n : Int, -9223372036854775808 ≤ n → n < 9223372036854775808 → IntKind.i64.wrap n = n := fun n h h' => by rw [IntKind.wrap_i64]; omega
  have so := fun (n : Int) (h : -9223372036854775808 ≤ n) (h' : n < 9223372036854775808) => fun w => sof_any P Q G H n hQ h h' w
  have lx := sof_lt h1 n; have ly := sof_lt h1 (n + 1)
  have e1 := sof_add h1 n 1
  rw [sof_one h1] at e1
  have c1 := sadd_yes P Q G H (sofN Q n) 1 hQ h1 lx h1
  rw [e1] at c1
  have c2 := sadd_yes P Q G H (sofN Q n) (sofN Q (-n)) hQ h1 lx (sof_lt h1 _)
  rw [sof_add h1, Int.add_right_neg, sof_zero h1] at c2
  have hy := Nat.lt_trans ly hQ
  by_cases hz : sofN Q (n + 1) = 0
  · exact next_true P Q G H _ _ _ n hQ hk hm hl (so n (by omega) (by omega)) (wr _ (by omega) (by omega)) (so _ (by omega) (by omega)) c1 (wr _ (by omega) (by omega)) (so _ (by omega) (by omega)) c2 hy (decide_eq_true hz) w
  · have hlt : sofN Q n < sofN Q (n + 1) := by
      by_cases h2 : sofN Q n + 1 < Q
      · rw [Nat.mod_eq_of_lt h2] at e1; omega
      · rw [show sofN Q n + 1 = Q by omega, Nat.mod_self] at e1; omega
    exact next_false P Q G H _ _ _ n hQ hk hm hl (so n (by omega) (by omega)) (wr _ (by omega) (by omega)) (so _ (by omega) (by omega)) c1 (wr _ (by omega) (by omega)) (so _ (by omega) (by omega)) c2 hy (decide_eq_false hz) (fun w => cmp_any _ _ (Nat.lt_trans lx hQ) hy w) (cmpN_neg hlt) w
end Go.Proofs.Ytodlpmepoakdlaa
