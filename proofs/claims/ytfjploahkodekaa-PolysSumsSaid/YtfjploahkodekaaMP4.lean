/-
  polys: one, by.
-/
import Derived.Deep.Cut
import Derived.Test.YtfjploahkodekaaMOpenQ
import Derived.Test.YtfjploahkodekaaMShort
namespace Go.Proofs.Ytfjploahkodekaa
set_option maxRecDepth 100000
open Go.RowKit
set_option linter.unusedSimpArgs false
set_option linter.unusedVariables false
attribute [local go_sem ↓] Go.wp_at_zero Go.wp_at_succ

set_option maxRecDepth 100000 in
set_option maxHeartbeats 800000 in
theorem one_w (P Q G H E : Nat) (w : World) (c : ∀ w, Calls Try.prog 11 #[grp P Q G H, .int .i64 1] w fun e w' => e = .returned (num E) ∧ Below w.heap.size w w') : Calls Try.prog 19 #[grp P Q G H] w fun e w' => e = .returned (tal P Q G H E) ∧ Below w.heap.size w w' := by
  refine sx_enter (args := [grp P Q G H]) Try.func19 rfl Try.ntmps19 (by rfl) fun a F HM => ?_
  repeat (first | refine ex_then ?_ | refine ex_block ?_ | refine wp_seq ?_ | refine wp_block ?_ | refine wp_skip ?_)
  refine wp_region_lit ?_
  refine lx_new F HM (wanted_none rfl _) rfl (by rfl) (o_boxG (F.ev rfl)) fun a w gg F HM => ?_
  refine lx_new F HM (wanted_none rfl _) rfl (by rfl) (o_allocT) fun a w go F HM => ?_
  refine lx_nil ?_
  repeat (first | refine ex_then ?_ | refine ex_block ?_ | refine wp_seq ?_ | refine wp_block ?_ | refine wp_skip ?_)
  refine sx_enterR (S := fun _ => True) HM (fun _ h => trivial) (by kernel_rfl) fun w HM HBW => ?_
  clear HBW
  try simp only [List.append_eq, List.cons_append, List.nil_append]
  refine sx_batch [⟨0, 3, [], .val (grp P Q G H), false⟩,
      ⟨1, 4, [], .val (grp P Q G H), false⟩,
      ⟨2, 5, [1], .val (num E), false⟩,
      ⟨3, 6, [0, 2], .val (tal P Q G H E), true⟩] 1 _ F HM (fun _ _ => trivial) (by kernel_rfl) (by rfl) ?_ ?_ ?_ ?_ ?_ ?_ ?_
  · kernel_rfl
  · exact of_decide_eq_true (by kernel_rfl)
  · exact all_cons ⟨_, by rfl, by rfl⟩ (all_cons ⟨_, by rfl, by rfl⟩ (all_cons ⟨_, by rfl, by rfl⟩ (all_cons ⟨_, by rfl, by rfl⟩ (all_nil))))
  · kernel_rfl
  · refine all_cons ?_ (all_cons ?_ (all_cons ?_ (all_cons ?_ (all_nil))))
    · exact core_pureAs _ (by rfl)
    · exact core_pureAs _ (by rfl)
    · exact core_pureAs _ (by rfl)
    · exact coreS _ _ _ _ _ _ _ (by rfl) (by rfl) (wants_none) (fun ρ w kn hs => o_buildT (kn _ _ (known_core 0 3 _ _ (of_decide_eq_true (by rfl)) (by rfl) (by rfl) (by rfl))) (kn _ _ (known_core 2 5 _ _ (of_decide_eq_true (by rfl)) (by rfl) (by rfl) (by rfl))))
  · refine all_cons ?_ (all_cons ?_ (all_cons ?_ (all_cons ?_ (all_nil))))
    · exact fun _ => coreB _ _ _ _ _ _ (by rfl) (by rfl) (fun ρ w kn hb => o_loadG (kn _ _ (F.old (by rfl) rfl)) ((HM.on hb).get 1 rfl))
    · exact fun _ => coreB _ _ _ _ _ _ (by rfl) (by rfl) (fun ρ w kn hb => o_loadG (kn _ _ (F.old (by rfl) rfl)) ((HM.on hb).get 1 rfl))
    · exact fun _ => coreG_call _ 11 _ _ [.tmp 4, .const (.int .i64 1)] _ _ _ _ _ _ _ (by rfl) Try.func11 (by kernel_rfl) (by rfl) (by rfl) (wants_none) (.cons (known_core 1 4 _ _ (of_decide_eq_true (by rfl)) (by rfl) (by rfl) (by rfl)) (.cons (known_const _) .nil)) (c)
    · exact core_stepAs _ (by rfl)
  intro gs rs a w hgs hrs F HM HBW HR HO HT
  obtain rfl := nl0 rs hrs
  obtain rfl := nl0 gs hgs
  clear hrs hgs HR HBW HO
  clear HT
  refine sx_store (i := 4) HM (by kernel_rfl) (by rfl) rfl rfl (k := 0) rfl (o_storeT (F.ev rfl) (F.ev rfl) (HM.get 0 rfl)) (M2 := [(go, 49, tcs P Q G H E), (gg, 26, gcs P Q G H)]) (by rw [setsT]; rfl) (fun _ _ => trivial) fun w HM => ?_
  refine sx_done (by kernel_rfl) ?_ _
  repeat (first | refine ex_then ?_ | refine ex_block ?_ | refine wp_seq ?_ | refine wp_block ?_ | refine wp_skip ?_)
  refine wp_ret ?_
  repeat (first | refine ex_thenR ?_ | refine ex_blockR ?_)
  exact sx_ret F HM (res_T F (s := 2) rfl rfl (HM.get 0 rfl))

theorem one_any (P Q G H : Nat) (hQ : Q < 2 ^ 256) (h1 : 1 < Q) (w : World) : Calls Try.prog 19 #[grp P Q G H] w fun e w' => e = .returned (tal P Q G H 1) ∧ Below w.heap.size w w' :=
  one_w P Q G H 1 w fun w => by
    have := sof_any P Q G H 1 hQ (by decide) (by decide) w
    rwa [sof_one h1] at this
set_option maxRecDepth 100000 in
set_option maxHeartbeats 800000 in
theorem by_w (P Q G H A B V W : Nat) (w : World) (c : ∀ w, Calls Try.prog 15 #[grp P Q G H, num B] w fun e w' => e = .returned (.tuple #[num V, .int .i64 0]) ∧ Below w.heap.size w w') (c2 : ∀ w, Calls Try.prog 13 #[grp P Q G H, num A, num V] w fun e w' => e = .returned (.tuple #[num W, .int .i64 0]) ∧ Below w.heap.size w w') : Calls Try.prog 22 #[grp P Q G H, num A, num B] w fun e w' => e = .returned (.tuple #[num W, .int .i64 0]) ∧ Below w.heap.size w w' := by
  refine sx_enter (args := [grp P Q G H, num A, num B]) Try.func22 rfl Try.ntmps22 (by rfl) fun a F HM => ?_
  repeat (first | refine ex_then ?_ | refine ex_block ?_ | refine wp_seq ?_ | refine wp_block ?_ | refine wp_skip ?_)
  refine wp_region_lit ?_
  refine lx_new F HM (wanted_none rfl _) rfl (by rfl) (o_boxG (F.ev rfl)) fun a w gg F HM => ?_
  refine lx_new F HM (wanted_none rfl _) rfl (by rfl) (o_boxN (F.ev rfl)) fun a w ga F HM => ?_
  refine lx_new F HM (wanted_none rfl _) rfl (by rfl) (o_boxN (F.ev rfl)) fun a w gb F HM => ?_
  refine lx_new F HM (wanted_none rfl _) rfl (by rfl) (o_allocN) fun a w go F HM => ?_
  refine lx_value (v := .int .i64 0) F (wanted_none rfl _) rfl (by rfl) (o_assign rfl) fun a F => ?_
  refine lx_nil ?_
  repeat (first | refine ex_then ?_ | refine ex_block ?_ | refine wp_seq ?_ | refine wp_block ?_ | refine wp_skip ?_)
  refine wp_region_lit ?_
  refine lx_value (v := grp P Q G H) F (wanted_none rfl _) rfl (by rfl) (o_loadG (F.ev rfl) (HM.get 3 rfl)) fun a F => ?_
  refine lx_value (v := num B) F (wanted_none rfl _) rfl (by rfl) (o_loadN (F.ev rfl) (HM.get 1 rfl)) fun a F => ?_
  refine lx_call F (wanted_none rfl _) rfl (by rfl) (run_callF Try.func15 (by kernel_rfl) (by rfl) (.cons (F.ev rfl) (.cons (F.ev rfl) .nil)) _) (c _) fun a w z F => ?_
  replace HM := HM.on z
  clear z
  refine lx_value (v := .tuple #[num V, .int .i64 0]) F (wanted_none rfl _) rfl (by rfl) (o_move (F.ev rfl)) fun a F => ?_
  refine lx_value (v := num V) F (wanted_none rfl _) rfl (by rfl) (o_extract (F.ev rfl) rfl) fun a F => ?_
  refine lx_value (v := .int .i64 0) F (wanted_none rfl _) rfl (by rfl) (o_extract (F.ev rfl) rfl) fun a F => ?_
  refine lx_new F HM (wanted_none rfl _) rfl (by rfl) (o_allocN) fun a w gi F HM => ?_
  refine lx_store F HM (wanted_none rfl _) rfl (k := 0) rfl (o_storeN (F.ev rfl) (F.ev rfl) (HM.get 0 rfl)) (M2 := [(gi, 24, ncs V), (go, 24, ncs 0), (gb, 24, ncs B), (ga, 24, ncs A), (gg, 26, gcs P Q G H)]) (rfl) fun w HM => ?_
  refine lx_value (v := .int .i64 0) F (wanted_none rfl _) rfl (by rfl) (o_assign (F.ev rfl)) fun a F => ?_
  refine lx_nil ?_
  repeat (first | refine ex_then ?_ | refine ex_block ?_ | refine wp_seq ?_ | refine wp_block ?_ | refine wp_skip ?_)
  refine wp_region_lit ?_
  refine lx_value (v := .int .i64 0) F (wanted_none rfl _) rfl (by rfl) (o_move (F.ev rfl)) fun a F => ?_
  refine lx_value (v := .bool false) F (wanted_none rfl _) rfl (by rfl) (o_bin (u := .int .i64 0) (v := .int .i64 0) (fun ρ hx hy => by simp only [execOp, hx, hy]; simp [go_sem]) (F.ev rfl) rfl) fun a F => ?_
  refine lx_nil ?_
  repeat (first | refine ex_then ?_ | refine ex_block ?_ | refine wp_seq ?_ | refine wp_block ?_ | refine wp_skip ?_)
  refine wp_cond_false (F.ev rfl) ?_
  repeat (first | refine ex_then ?_ | refine ex_block ?_ | refine wp_seq ?_ | refine wp_block ?_ | refine wp_skip ?_)
  refine wp_region_lit ?_
  refine lx_value (v := grp P Q G H) F (wanted_none rfl _) rfl (by rfl) (o_loadG (F.ev rfl) (HM.get 4 rfl)) fun a F => ?_
  refine lx_value (v := num A) F (wanted_none rfl _) rfl (by rfl) (o_loadN (F.ev rfl) (HM.get 3 rfl)) fun a F => ?_
  refine lx_value (v := num V) F (wanted_none rfl _) rfl (by rfl) (o_loadN (F.ev rfl) (HM.get 0 rfl)) fun a F => ?_
  refine lx_call F (wanted_none rfl _) rfl (by rfl) (run_callF Try.func13 (by kernel_rfl) (by rfl) (.cons (F.ev rfl) (.cons (F.ev rfl) (.cons (F.ev rfl) .nil))) _) (c2 _) fun a w z F => ?_
  replace HM := HM.on z
  clear z
  refine lx_value (v := num W) F (wanted_none rfl _) rfl (by rfl) (o_extract (F.ev rfl) rfl) fun a F => ?_
  refine lx_value (v := .int .i64 0) F (wanted_none rfl _) rfl (by rfl) (o_extract (F.ev rfl) rfl) fun a F => ?_
  refine lx_store F HM (wanted_none rfl _) rfl (k := 1) rfl (o_storeN (F.ev rfl) (F.ev rfl) (HM.get 1 rfl)) (M2 := [(gi, 24, ncs V), (go, 24, ncs W), (gb, 24, ncs B), (ga, 24, ncs A), (gg, 26, gcs P Q G H)]) (rfl) fun w HM => ?_
  refine lx_value (v := .int .i64 0) F (wanted_none rfl _) rfl (by rfl) (o_assign (F.ev rfl)) fun a F => ?_
  refine lx_nil ?_
  repeat (first | refine ex_then ?_ | refine ex_block ?_ | refine wp_seq ?_ | refine wp_block ?_ | refine wp_skip ?_)
  refine wp_ret ?_
  repeat (first | refine ex_thenR ?_ | refine ex_blockR ?_)
  exact sx_ret F HM (res_NI F (s := 6) (t := 7) rfl rfl rfl (HM.get 1 rfl))

set_option maxRecDepth 100000 in
set_option maxHeartbeats 800000 in
theorem by_n (P Q G H A B : Nat) (w : World) (c : ∀ w, Calls Try.prog 15 #[grp P Q G H, num B] w fun e w' => e = .returned (.tuple #[num 0, .int .i64 7]) ∧ Below w.heap.size w w') : Calls Try.prog 22 #[grp P Q G H, num A, num B] w fun e w' => e = .returned (.tuple #[num 0, .int .i64 7]) ∧ Below w.heap.size w w' := by
  refine sx_enter (args := [grp P Q G H, num A, num B]) Try.func22 rfl Try.ntmps22 (by rfl) fun a F HM => ?_
  repeat (first | refine ex_then ?_ | refine ex_block ?_ | refine wp_seq ?_ | refine wp_block ?_ | refine wp_skip ?_)
  refine wp_region_lit ?_
  refine lx_new F HM (wanted_none rfl _) rfl (by rfl) (o_boxG (F.ev rfl)) fun a w gg F HM => ?_
  refine lx_new F HM (wanted_none rfl _) rfl (by rfl) (o_boxN (F.ev rfl)) fun a w ga F HM => ?_
  refine lx_new F HM (wanted_none rfl _) rfl (by rfl) (o_boxN (F.ev rfl)) fun a w gb F HM => ?_
  refine lx_new F HM (wanted_none rfl _) rfl (by rfl) (o_allocN) fun a w go F HM => ?_
  refine lx_value (v := .int .i64 0) F (wanted_none rfl _) rfl (by rfl) (o_assign rfl) fun a F => ?_
  refine lx_nil ?_
  repeat (first | refine ex_then ?_ | refine ex_block ?_ | refine wp_seq ?_ | refine wp_block ?_ | refine wp_skip ?_)
  refine wp_region_lit ?_
  refine lx_value (v := grp P Q G H) F (wanted_none rfl _) rfl (by rfl) (o_loadG (F.ev rfl) (HM.get 3 rfl)) fun a F => ?_
  refine lx_value (v := num B) F (wanted_none rfl _) rfl (by rfl) (o_loadN (F.ev rfl) (HM.get 1 rfl)) fun a F => ?_
  refine lx_call F (wanted_none rfl _) rfl (by rfl) (run_callF Try.func15 (by kernel_rfl) (by rfl) (.cons (F.ev rfl) (.cons (F.ev rfl) .nil)) _) (c _) fun a w z F => ?_
  replace HM := HM.on z
  clear z
  refine lx_value (v := .tuple #[num 0, .int .i64 7]) F (wanted_none rfl _) rfl (by rfl) (o_move (F.ev rfl)) fun a F => ?_
  refine lx_value (v := num 0) F (wanted_none rfl _) rfl (by rfl) (o_extract (F.ev rfl) rfl) fun a F => ?_
  refine lx_value (v := .int .i64 7) F (wanted_none rfl _) rfl (by rfl) (o_extract (F.ev rfl) rfl) fun a F => ?_
  refine lx_new F HM (wanted_none rfl _) rfl (by rfl) (o_allocN) fun a w gi F HM => ?_
  refine lx_store F HM (wanted_none rfl _) rfl (k := 0) rfl (o_storeN (F.ev rfl) (F.ev rfl) (HM.get 0 rfl)) (M2 := [(gi, 24, ncs 0), (go, 24, ncs 0), (gb, 24, ncs B), (ga, 24, ncs A), (gg, 26, gcs P Q G H)]) (rfl) fun w HM => ?_
  refine lx_value (v := .int .i64 7) F (wanted_none rfl _) rfl (by rfl) (o_assign (F.ev rfl)) fun a F => ?_
  refine lx_nil ?_
  repeat (first | refine ex_then ?_ | refine ex_block ?_ | refine wp_seq ?_ | refine wp_block ?_ | refine wp_skip ?_)
  refine wp_region_lit ?_
  refine lx_value (v := .int .i64 7) F (wanted_none rfl _) rfl (by rfl) (o_move (F.ev rfl)) fun a F => ?_
  refine lx_value (v := .bool true) F (wanted_none rfl _) rfl (by rfl) (o_bin (u := .int .i64 7) (v := .int .i64 0) (fun ρ hx hy => by simp only [execOp, hx, hy]; simp [go_sem]) (F.ev rfl) rfl) fun a F => ?_
  refine lx_nil ?_
  repeat (first | refine ex_then ?_ | refine ex_block ?_ | refine wp_seq ?_ | refine wp_block ?_ | refine wp_skip ?_)
  refine wp_cond_true (F.ev rfl) ?_
  repeat (first | refine ex_then ?_ | refine ex_block ?_ | refine wp_seq ?_ | refine wp_block ?_ | refine wp_skip ?_)
  refine wp_region_lit ?_
  refine lx_value (v := num 0) F (wanted_none rfl _) rfl (by rfl) (o_build0) fun a F => ?_
  refine lx_value (v := .int .i64 7) F (wanted_none rfl _) rfl (by rfl) (o_move (F.ev rfl)) fun a F => ?_
  refine lx_store F HM (wanted_none rfl _) rfl (k := 1) rfl (o_storeN (F.ev rfl) (F.ev rfl) (HM.get 1 rfl)) (M2 := [(gi, 24, ncs 0), (go, 24, ncs 0), (gb, 24, ncs B), (ga, 24, ncs A), (gg, 26, gcs P Q G H)]) (rfl) fun w HM => ?_
  refine lx_value (v := .int .i64 7) F (wanted_none rfl _) rfl (by rfl) (o_assign (F.ev rfl)) fun a F => ?_
  refine lx_nil ?_
  repeat (first | refine ex_then ?_ | refine ex_block ?_ | refine wp_seq ?_ | refine wp_block ?_ | refine wp_skip ?_)
  refine wp_ret ?_
  repeat (first | refine ex_thenR ?_ | refine ex_blockR ?_)
  exact sx_ret F HM (res_NI F (s := 6) (t := 7) rfl rfl rfl (HM.get 1 rfl))

/-- a divided by b, where b has an inverse -/
theorem by_yes (P Q G H A B : Nat) (hQ : Q < 2 ^ 256) (h1 : 1 < Q) (hA : A < Q) (hB : B < Q) (hu : U Q (B : Int)) : ∃ T, T < Q ∧ Cg Q ((T : Int) * (B : Int)) (A : Int) ∧ ∀ w, Calls Try.prog 22 #[grp P Q G H, num A, num B] w fun e w' => e = .returned (.tuple #[num T, .int .i64 0]) ∧ Below w.heap.size w w' := by
  obtain ⟨V, hV, hBV⟩ := inv_there B Q h1 (U.gcd h1 hu)
  refine ⟨A * V % Q, Nat.mod_lt _ (by omega), ?_, fun w => by_w P Q G H A B V _ w (sinv_yes P Q G H B V hQ h1 hB hV hBV) (smul_yes P Q G H A V hQ h1 hA hV)⟩
  have h2 : Cg Q ((B : Int) * (V : Int)) 1 := by
    rw [← Int.natCast_mul]
    exact (Cg.emod Q _).symm.trans (Cg.of_eq (by rw [← Int.natCast_emod, hBV]; rfl))
  rw [Int.natCast_emod, Int.natCast_mul]
  refine ((Cg.emod Q _).mul (Cg.refl Q (B : Int))).trans ?_
  refine (Cg.of_eq ?_).trans ((Cg.mulL (A : Int) h2).trans (Cg.of_eq (by omega)))
  grind
theorem by_none (P Q G H A B : Nat) (hQ : Q < 2 ^ 256) (h1 : 1 < Q) (hB : B < Q) (hu : ¬ U Q (B : Int)) : ∀ w, Calls Try.prog 22 #[grp P Q G H, num A, num B] w fun e w' => e = .returned (.tuple #[num 0, .int .i64 7]) ∧ Below w.heap.size w w' := fun w =>
  by_n P Q G H A B w (sinv_none P Q G H B hQ h1 hB fun h => hu (U.of_gcd h1 h))
end Go.Proofs.Ytfjploahkodekaa
