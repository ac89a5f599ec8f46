/-
  Tallies: times and add.
-/
import Derived.Deep.Cut
import Derived.Test.YtfjploahkodekaaMPx
import Derived.Test.YtfjploahkodekaaMShort
namespace Go.Proofs.Ytfjploahkodekaa
set_option maxRecDepth 100000
open Go.RowKit
set_option linter.unusedSimpArgs false
set_option linter.unusedVariables false
attribute [local go_sem ↓] Go.wp_at_zero Go.wp_at_succ

set_option maxRecDepth 100000 in
set_option maxHeartbeats 800000 in
theorem ttimes_w (P Q G H S A V gt n0 : Nat) (M : List (Nat × TypeId × Array Value)) (w0 w : World) (c : ∀ w, Calls Try.prog 13 #[grp P Q G H, num S, num A] w fun e w' => e = .returned (.tuple #[num V, .int .i64 0]) ∧ Below w.heap.size w w') (HM : Mem n0 w0 w ((gt, 49, tcs P Q G H S) :: M)) : Calls Try.prog 33 #[.pointer (some ⟨gt, 0, none⟩), num A] w fun e w2 => e = .returned (.tuple #[]) ∧ Mem n0 w0 w2 ((gt, 49, tcs P Q G H V) :: M) := by
  refine sx_enterW (args := [.pointer (some ⟨gt, 0, none⟩), num A]) HM Try.func33 rfl Try.ntmps33 (by rfl) fun a F HM => ?_
  repeat (first | refine ex_then ?_ | refine ex_block ?_ | refine wp_seq ?_ | refine wp_block ?_ | refine wp_skip ?_)
  refine wp_region_lit ?_
  refine lx_new F HM (wanted_none rfl _) rfl (by rfl) (o_boxN (F.ev rfl)) fun a w ga F HM => ?_
  refine lx_nil ?_
  repeat (first | refine ex_then ?_ | refine ex_block ?_ | refine wp_seq ?_ | refine wp_block ?_ | refine wp_skip ?_)
  refine sx_enterR (S := fun _ => True) HM (fun _ h => trivial) (by kernel_rfl) fun w HM HBW => ?_
  clear HBW
  try simp only [List.append_eq, List.cons_append, List.nil_append]
  refine sx_batch [⟨0, 5, [], .val (.pointer (some ⟨gt, 0, none⟩)), true⟩,
      ⟨1, 6, [], .val (.pointer (some ⟨gt, 0, none⟩)), true⟩,
      ⟨2, 7, [1], .val (.pointer (some ⟨gt, 0, none⟩)), true⟩,
      ⟨3, 8, [2], .val (.pointer (some ⟨gt, 0, none⟩)), true⟩,
      ⟨4, 9, [3], .val (grp P Q G H), false⟩,
      ⟨5, 10, [], .val (.pointer (some ⟨gt, 0, none⟩)), true⟩,
      ⟨6, 11, [5], .val (.pointer (some ⟨gt, 0, none⟩)), true⟩,
      ⟨7, 12, [6], .val (.pointer (some ⟨gt, 16, none⟩)), true⟩,
      ⟨8, 13, [7], .val (num S), false⟩,
      ⟨9, 14, [], .val (num A), false⟩,
      ⟨14, 18, [0], .val (.pointer (some ⟨gt, 0, none⟩)), true⟩,
      ⟨15, 19, [10], .val (.pointer (some ⟨gt, 16, none⟩)), true⟩,
      ⟨10, 15, [4, 8, 9], .val (.tuple #[num V, .int .i64 0]), false⟩,
      ⟨11, 4, [12], .val (.tuple #[num V, .int .i64 0]), true⟩,
      ⟨12, 16, [13], .val (num V), true⟩,
      ⟨13, 17, [13], .val (.int .i64 0), true⟩] 1 _ F HM (fun _ _ => trivial) (by kernel_rfl) (by rfl) ?_ ?_ ?_ ?_ ?_ ?_ ?_
  · kernel_rfl
  · exact of_decide_eq_true (by kernel_rfl)
  · exact all_cons ⟨_, by rfl, by rfl⟩ (all_cons ⟨_, by rfl, by rfl⟩ (all_cons ⟨_, by rfl, by rfl⟩ (all_cons ⟨_, by rfl, by rfl⟩ (all_cons ⟨_, by rfl, by rfl⟩ (all_cons ⟨_, by rfl, by rfl⟩ (all_cons ⟨_, by rfl, by rfl⟩ (all_cons ⟨_, by rfl, by rfl⟩ (all_cons ⟨_, by rfl, by rfl⟩ (all_cons ⟨_, by rfl, by rfl⟩ (all_cons ⟨_, by rfl, by rfl⟩ (all_cons ⟨_, by rfl, by rfl⟩ (all_cons ⟨_, by rfl, by rfl⟩ (all_cons ⟨_, by rfl, by rfl⟩ (all_cons ⟨_, by rfl, by rfl⟩ (all_cons ⟨_, by rfl, by rfl⟩ (all_nil))))))))))))))))
  · kernel_rfl
  · refine all_cons ?_ (all_cons ?_ (all_cons ?_ (all_cons ?_ (all_cons ?_ (all_cons ?_ (all_cons ?_ (all_cons ?_ (all_cons ?_ (all_cons ?_ (all_cons ?_ (all_cons ?_ (all_cons ?_ (all_cons ?_ (all_cons ?_ (all_cons ?_ (all_nil))))))))))))))))
    · exact coreS _ _ _ _ _ _ _ (by rfl) (by rfl) (wants_none) (fun ρ w kn hs => o_move (kn _ _ (F.old (by rfl) rfl)))
    · exact coreS _ _ _ _ _ _ _ (by rfl) (by rfl) (wants_none) (fun ρ w kn hs => o_move (kn _ _ (F.old (by rfl) rfl)))
    · exact coreS _ _ _ _ _ _ _ (by rfl) (by rfl) (wants_none) (fun ρ w kn hs => o_nilCheck (kn _ _ (known_core 1 6 _ _ (of_decide_eq_true (by rfl)) (by rfl) (by rfl) (by rfl))))
    · exact coreS _ _ _ _ _ _ _ (by rfl) (by rfl) (wants_none) (fun ρ w kn hs => o_fieldT0 (kn _ _ (known_core 2 7 _ _ (of_decide_eq_true (by rfl)) (by rfl) (by rfl) (by rfl))))
    · exact core_pureAs _ (by rfl)
    · exact coreS _ _ _ _ _ _ _ (by rfl) (by rfl) (wants_none) (fun ρ w kn hs => o_move (kn _ _ (F.old (by rfl) rfl)))
    · exact coreS _ _ _ _ _ _ _ (by rfl) (by rfl) (wants_none) (fun ρ w kn hs => o_nilCheck (kn _ _ (known_core 5 10 _ _ (of_decide_eq_true (by rfl)) (by rfl) (by rfl) (by rfl))))
    · exact coreS _ _ _ _ _ _ _ (by rfl) (by rfl) (wants_none) (fun ρ w kn hs => o_fieldT1 (kn _ _ (known_core 6 11 _ _ (of_decide_eq_true (by rfl)) (by rfl) (by rfl) (by rfl))))
    · exact core_pureAs _ (by rfl)
    · exact core_pureAs _ (by rfl)
    · exact coreS _ _ _ _ _ _ _ (by rfl) (by rfl) (wants_none) (fun ρ w kn hs => o_nilCheck (kn _ _ (known_core 0 5 _ _ (of_decide_eq_true (by rfl)) (by rfl) (by rfl) (by rfl))))
    · exact coreS _ _ _ _ _ _ _ (by rfl) (by rfl) (wants_none) (fun ρ w kn hs => o_fieldT1 (kn _ _ (known_core 10 18 _ _ (of_decide_eq_true (by rfl)) (by rfl) (by rfl) (by rfl))))
    · exact core_pureAs _ (by rfl)
    · exact coreS _ _ _ _ _ _ _ (by rfl) (by rfl) (wants_none) (fun ρ w kn hs => o_move (kn _ _ (known_core 12 15 _ _ (of_decide_eq_true (by rfl)) (by rfl) (by rfl) (by rfl))))
    · exact coreS _ _ _ _ _ _ _ (by rfl) (by rfl) (wants_none) (fun ρ w kn hs => o_extract (kn _ _ (known_core 13 4 _ _ (of_decide_eq_true (by rfl)) (by rfl) (by rfl) (by rfl))) rfl)
    · exact coreS _ _ _ _ _ _ _ (by rfl) (by rfl) (wants_none) (fun ρ w kn hs => o_extract (kn _ _ (known_core 13 4 _ _ (of_decide_eq_true (by rfl)) (by rfl) (by rfl) (by rfl))) rfl)
  · refine all_cons ?_ (all_cons ?_ (all_cons ?_ (all_cons ?_ (all_cons ?_ (all_cons ?_ (all_cons ?_ (all_cons ?_ (all_cons ?_ (all_cons ?_ (all_cons ?_ (all_cons ?_ (all_cons ?_ (all_cons ?_ (all_cons ?_ (all_cons ?_ (all_nil))))))))))))))))
    · exact core_stepAs _ (by rfl)
    · exact core_stepAs _ (by rfl)
    · exact core_stepAs _ (by rfl)
    · exact core_stepAs _ (by rfl)
    · exact fun _ => coreB _ _ _ _ _ _ (by rfl) (by rfl) (fun ρ w kn hb => o_loadT0 (kn _ _ (known_core 3 8 _ _ (of_decide_eq_true (by rfl)) (by rfl) (by rfl) (by rfl))) ((HM.on hb).get 1 rfl))
    · exact core_stepAs _ (by rfl)
    · exact core_stepAs _ (by rfl)
    · exact core_stepAs _ (by rfl)
    · exact fun _ => coreB _ _ _ _ _ _ (by rfl) (by rfl) (fun ρ w kn hb => o_loadT1 (kn _ _ (known_core 7 12 _ _ (of_decide_eq_true (by rfl)) (by rfl) (by rfl) (by rfl))) ((HM.on hb).get 1 rfl))
    · exact fun _ => coreB _ _ _ _ _ _ (by rfl) (by rfl) (fun ρ w kn hb => o_loadN (kn _ _ (F.old (by rfl) rfl)) ((HM.on hb).get 0 rfl))
    · exact core_stepAs _ (by rfl)
    · exact core_stepAs _ (by rfl)
    · exact fun _ => coreG_call _ 13 _ _ [.tmp 9, .tmp 13, .tmp 14] _ _ _ _ _ _ _ (by rfl) Try.func13 (by kernel_rfl) (by rfl) (by rfl) (wants_none) (.cons (known_core 4 9 _ _ (of_decide_eq_true (by rfl)) (by rfl) (by rfl) (by rfl)) (.cons (known_core 8 13 _ _ (of_decide_eq_true (by rfl)) (by rfl) (by rfl) (by rfl)) (.cons (known_core 9 14 _ _ (of_decide_eq_true (by rfl)) (by rfl) (by rfl) (by rfl)) .nil))) (c)
    · exact core_stepAs _ (by rfl)
    · exact core_stepAs _ (by rfl)
    · exact core_stepAs _ (by rfl)
  intro gs rs a w hgs hrs F HM HBW HR HO HT
  obtain rfl := nl0 rs hrs
  obtain rfl := nl0 gs hgs
  clear hrs hgs HR HBW HO
  clear HT
  refine sx_store (i := 16) HM (by kernel_rfl) (by rfl) rfl rfl (k := 1) rfl (o_storeT1 (F.ev rfl) (F.ev rfl) (HM.get 1 rfl)) (M2 := ((ga, 24, ncs A) :: (gt, 49, tcs P Q G H V) :: M)) (by rw [setsT1]; rfl) (fun _ _ => trivial) fun w HM => ?_
  refine sx_done (by kernel_rfl) ?_ _
  replace HM := HM.erase 0 (M2 := ((gt, 49, tcs P Q G H V) :: M)) rfl
  repeat (first | refine ex_then ?_ | refine ex_block ?_ | refine wp_seq ?_ | refine wp_block ?_ | refine wp_skip ?_)
  exact bodyPost_end (res_none rfl) F.defers ⟨rfl, HM⟩

theorem ttimes_any (P Q G H S A gt n0 : Nat) (M : List (Nat × TypeId × Array Value)) (w0 w : World) (hQ : Q < 2 ^ 256) (h1 : 1 < Q) (hS : S < Q) (hA : A < Q) (HM : Mem n0 w0 w ((gt, 49, tcs P Q G H S) :: M)) :
    Calls Try.prog 33 #[.pointer (some ⟨gt, 0, none⟩), num A] w fun e w2 => e = .returned (.tuple #[]) ∧ Mem n0 w0 w2 ((gt, 49, tcs P Q G H (S * A % Q)) :: M) :=
  ttimes_w P Q G H S A _ gt n0 M w0 w (smul_yes P Q G H S A hQ h1 hS hA) HM
set_option maxRecDepth 100000 in
set_option maxHeartbeats 800000 in
theorem tadd_w (P Q G H S A V gt n0 : Nat) (M : List (Nat × TypeId × Array Value)) (w0 w : World) (c : ∀ w, Calls Try.prog 12 #[grp P Q G H, num S, num A] w fun e w' => e = .returned (.tuple #[num V, .int .i64 0]) ∧ Below w.heap.size w w') (HM : Mem n0 w0 w ((gt, 49, tcs P Q G H S) :: M)) : Calls Try.prog 37 #[.pointer (some ⟨gt, 0, none⟩), num A] w fun e w2 => e = .returned (.tuple #[]) ∧ Mem n0 w0 w2 ((gt, 49, tcs P Q G H V) :: M) := by
  refine sx_enterW (args := [.pointer (some ⟨gt, 0, none⟩), num A]) HM Try.func37 rfl Try.ntmps37 (by rfl) fun a F HM => ?_
  repeat (first | refine ex_then ?_ | refine ex_block ?_ | refine wp_seq ?_ | refine wp_block ?_ | refine wp_skip ?_)
  refine wp_region_lit ?_
  refine lx_new F HM (wanted_none rfl _) rfl (by rfl) (o_boxN (F.ev rfl)) fun a w ga F HM => ?_
  refine lx_nil ?_
  repeat (first | refine ex_then ?_ | refine ex_block ?_ | refine wp_seq ?_ | refine wp_block ?_ | refine wp_skip ?_)
  refine sx_enterR (S := fun _ => True) HM (fun _ h => trivial) (by kernel_rfl) fun w HM HBW => ?_
  clear HBW
  try simp only [List.append_eq, List.cons_append, List.nil_append]
  refine sx_batch [⟨0, 5, [], .val (.pointer (some ⟨gt, 0, none⟩)), true⟩,
      ⟨1, 6, [], .val (.pointer (some ⟨gt, 0, none⟩)), true⟩,
      ⟨2, 7, [1], .val (.pointer (some ⟨gt, 0, none⟩)), true⟩,
      ⟨3, 8, [2], .val (.pointer (some ⟨gt, 0, none⟩)), true⟩,
      ⟨4, 9, [3], .val (grp P Q G H), false⟩,
      ⟨5, 10, [], .val (.pointer (some ⟨gt, 0, none⟩)), true⟩,
      ⟨6, 11, [5], .val (.pointer (some ⟨gt, 0, none⟩)), true⟩,
      ⟨7, 12, [6], .val (.pointer (some ⟨gt, 16, none⟩)), true⟩,
      ⟨8, 13, [7], .val (num S), false⟩,
      ⟨9, 14, [], .val (num A), false⟩,
      ⟨14, 18, [0], .val (.pointer (some ⟨gt, 0, none⟩)), true⟩,
      ⟨15, 19, [10], .val (.pointer (some ⟨gt, 16, none⟩)), true⟩,
      ⟨10, 15, [4, 8, 9], .val (.tuple #[num V, .int .i64 0]), false⟩,
      ⟨11, 4, [12], .val (.tuple #[num V, .int .i64 0]), true⟩,
      ⟨12, 16, [13], .val (num V), true⟩,
      ⟨13, 17, [13], .val (.int .i64 0), true⟩] 1 _ F HM (fun _ _ => trivial) (by kernel_rfl) (by rfl) ?_ ?_ ?_ ?_ ?_ ?_ ?_
  · kernel_rfl
  · exact of_decide_eq_true (by kernel_rfl)
  · exact all_cons ⟨_, by rfl, by rfl⟩ (all_cons ⟨_, by rfl, by rfl⟩ (all_cons ⟨_, by rfl, by rfl⟩ (all_cons ⟨_, by rfl, by rfl⟩ (all_cons ⟨_, by rfl, by rfl⟩ (all_cons ⟨_, by rfl, by rfl⟩ (all_cons ⟨_, by rfl, by rfl⟩ (all_cons ⟨_, by rfl, by rfl⟩ (all_cons ⟨_, by rfl, by rfl⟩ (all_cons ⟨_, by rfl, by rfl⟩ (all_cons ⟨_, by rfl, by rfl⟩ (all_cons ⟨_, by rfl, by rfl⟩ (all_cons ⟨_, by rfl, by rfl⟩ (all_cons ⟨_, by rfl, by rfl⟩ (all_cons ⟨_, by rfl, by rfl⟩ (all_cons ⟨_, by rfl, by rfl⟩ (all_nil))))))))))))))))
  · kernel_rfl
  · refine all_cons ?_ (all_cons ?_ (all_cons ?_ (all_cons ?_ (all_cons ?_ (all_cons ?_ (all_cons ?_ (all_cons ?_ (all_cons ?_ (all_cons ?_ (all_cons ?_ (all_cons ?_ (all_cons ?_ (all_cons ?_ (all_cons ?_ (all_cons ?_ (all_nil))))))))))))))))
    · exact coreS _ _ _ _ _ _ _ (by rfl) (by rfl) (wants_none) (fun ρ w kn hs => o_move (kn _ _ (F.old (by rfl) rfl)))
    · exact coreS _ _ _ _ _ _ _ (by rfl) (by rfl) (wants_none) (fun ρ w kn hs => o_move (kn _ _ (F.old (by rfl) rfl)))
    · exact coreS _ _ _ _ _ _ _ (by rfl) (by rfl) (wants_none) (fun ρ w kn hs => o_nilCheck (kn _ _ (known_core 1 6 _ _ (of_decide_eq_true (by rfl)) (by rfl) (by rfl) (by rfl))))
    · exact coreS _ _ _ _ _ _ _ (by rfl) (by rfl) (wants_none) (fun ρ w kn hs => o_fieldT0 (kn _ _ (known_core 2 7 _ _ (of_decide_eq_true (by rfl)) (by rfl) (by rfl) (by rfl))))
    · exact core_pureAs _ (by rfl)
    · exact coreS _ _ _ _ _ _ _ (by rfl) (by rfl) (wants_none) (fun ρ w kn hs => o_move (kn _ _ (F.old (by rfl) rfl)))
    · exact coreS _ _ _ _ _ _ _ (by rfl) (by rfl) (wants_none) (fun ρ w kn hs => o_nilCheck (kn _ _ (known_core 5 10 _ _ (of_decide_eq_true (by rfl)) (by rfl) (by rfl) (by rfl))))
    · exact coreS _ _ _ _ _ _ _ (by rfl) (by rfl) (wants_none) (fun ρ w kn hs => o_fieldT1 (kn _ _ (known_core 6 11 _ _ (of_decide_eq_true (by rfl)) (by rfl) (by rfl) (by rfl))))
    · exact core_pureAs _ (by rfl)
    · exact core_pureAs _ (by rfl)
    · exact coreS _ _ _ _ _ _ _ (by rfl) (by rfl) (wants_none) (fun ρ w kn hs => o_nilCheck (kn _ _ (known_core 0 5 _ _ (of_decide_eq_true (by rfl)) (by rfl) (by rfl) (by rfl))))
    · exact coreS _ _ _ _ _ _ _ (by rfl) (by rfl) (wants_none) (fun ρ w kn hs => o_fieldT1 (kn _ _ (known_core 10 18 _ _ (of_decide_eq_true (by rfl)) (by rfl) (by rfl) (by rfl))))
    · exact core_pureAs _ (by rfl)
    · exact coreS _ _ _ _ _ _ _ (by rfl) (by rfl) (wants_none) (fun ρ w kn hs => o_move (kn _ _ (known_core 12 15 _ _ (of_decide_eq_true (by rfl)) (by rfl) (by rfl) (by rfl))))
    · exact coreS _ _ _ _ _ _ _ (by rfl) (by rfl) (wants_none) (fun ρ w kn hs => o_extract (kn _ _ (known_core 13 4 _ _ (of_decide_eq_true (by rfl)) (by rfl) (by rfl) (by rfl))) rfl)
    · exact coreS _ _ _ _ _ _ _ (by rfl) (by rfl) (wants_none) (fun ρ w kn hs => o_extract (kn _ _ (known_core 13 4 _ _ (of_decide_eq_true (by rfl)) (by rfl) (by rfl) (by rfl))) rfl)
  · refine all_cons ?_ (all_cons ?_ (all_cons ?_ (all_cons ?_ (all_cons ?_ (all_cons ?_ (all_cons ?_ (all_cons ?_ (all_cons ?_ (all_cons ?_ (all_cons ?_ (all_cons ?_ (all_cons ?_ (all_cons ?_ (all_cons ?_ (all_cons ?_ (all_nil))))))))))))))))
    · exact core_stepAs _ (by rfl)
    · exact core_stepAs _ (by rfl)
    · exact core_stepAs _ (by rfl)
    · exact core_stepAs _ (by rfl)
    · exact fun _ => coreB _ _ _ _ _ _ (by rfl) (by rfl) (fun ρ w kn hb => o_loadT0 (kn _ _ (known_core 3 8 _ _ (of_decide_eq_true (by rfl)) (by rfl) (by rfl) (by rfl))) ((HM.on hb).get 1 rfl))
    · exact core_stepAs _ (by rfl)
    · exact core_stepAs _ (by rfl)
    · exact core_stepAs _ (by rfl)
    · exact fun _ => coreB _ _ _ _ _ _ (by rfl) (by rfl) (fun ρ w kn hb => o_loadT1 (kn _ _ (known_core 7 12 _ _ (of_decide_eq_true (by rfl)) (by rfl) (by rfl) (by rfl))) ((HM.on hb).get 1 rfl))
    · exact fun _ => coreB _ _ _ _ _ _ (by rfl) (by rfl) (fun ρ w kn hb => o_loadN (kn _ _ (F.old (by rfl) rfl)) ((HM.on hb).get 0 rfl))
    · exact core_stepAs _ (by rfl)
    · exact core_stepAs _ (by rfl)
    · exact fun _ => coreG_call _ 12 _ _ [.tmp 9, .tmp 13, .tmp 14] _ _ _ _ _ _ _ (by rfl) Try.func12 (by kernel_rfl) (by rfl) (by rfl) (wants_none) (.cons (known_core 4 9 _ _ (of_decide_eq_true (by rfl)) (by rfl) (by rfl) (by rfl)) (.cons (known_core 8 13 _ _ (of_decide_eq_true (by rfl)) (by rfl) (by rfl) (by rfl)) (.cons (known_core 9 14 _ _ (of_decide_eq_true (by rfl)) (by rfl) (by rfl) (by rfl)) .nil))) (c)
    · exact core_stepAs _ (by rfl)
    · exact core_stepAs _ (by rfl)
    · exact core_stepAs _ (by rfl)
  intro gs rs a w hgs hrs F HM HBW HR HO HT
  obtain rfl := nl0 rs hrs
  obtain rfl := nl0 gs hgs
  clear hrs hgs HR HBW HO
  clear HT
  refine sx_store (i := 16) HM (by kernel_rfl) (by rfl) rfl rfl (k := 1) rfl (o_storeT1 (F.ev rfl) (F.ev rfl) (HM.get 1 rfl)) (M2 := ((ga, 24, ncs A) :: (gt, 49, tcs P Q G H V) :: M)) (by rw [setsT1]; rfl) (fun _ _ => trivial) fun w HM => ?_
  refine sx_done (by kernel_rfl) ?_ _
  replace HM := HM.erase 0 (M2 := ((gt, 49, tcs P Q G H V) :: M)) rfl
  repeat (first | refine ex_then ?_ | refine ex_block ?_ | refine wp_seq ?_ | refine wp_block ?_ | refine wp_skip ?_)
  exact bodyPost_end (res_none rfl) F.defers ⟨rfl, HM⟩

theorem tadd_any (P Q G H S A gt n0 : Nat) (M : List (Nat × TypeId × Array Value)) (w0 w : World) (hQ : Q < 2 ^ 256) (h1 : 1 < Q) (hS : S < Q) (hA : A < Q) (HM : Mem n0 w0 w ((gt, 49, tcs P Q G H S) :: M)) :
    Calls Try.prog 37 #[.pointer (some ⟨gt, 0, none⟩), num A] w fun e w2 => e = .returned (.tuple #[]) ∧ Mem n0 w0 w2 ((gt, 49, tcs P Q G H ((S + A) % Q)) :: M) :=
  tadd_w P Q G H S A _ gt n0 M w0 w (sadd_yes P Q G H S A hQ h1 hS hA) HM
end Go.Proofs.Ytfjploahkodekaa
