/-
  The walk of ModsWhole: it answers true, and nothing that was there is changed.
-/
import Derived.Test.YtmhmdbjjmmmgkaaAlive4
namespace Go.Proofs.Ytmhmdbjjmmmgkaa
open Go.RowKit
set_option linter.unusedSimpArgs false
set_option linter.unusedVariables false
attribute [local go_sem ↓] Go.wp_at_zero Go.wp_at_succ

set_option maxRecDepth 100000 in
set_option maxHeartbeats 8000000 in
theorem whole_none (A B M Z : Nat) (k : Int)
    (hk : k ≤ 0)
    (O : ∀ w, Calls Try.prog 28 #[.int .u64 1] w fun e w' => e = .returned (num Z) ∧ Below w.heap.size w w')
    (K : ∀ w, Calls Try.prog 27 #[num M, num Z] w fun e w' => e = .returned (.int .i64 k) ∧ Below w.heap.size w w')
    (w : World) : Calls Try.prog 6 #[num A, num B, num M] w fun e w' => e = .returned (.bool true) ∧ Below w.heap.size w w' := by
  have HO := Lib.hid O
  have HK := Lib.hid K
  clear O K
  go_enter Try.func6, Try.ntmps6
  go_wp2_with fail
  have BW := Lib.hid (Below.refl w.heap.size w)
  have Na : At (((w.alloc (.cells #[.int .u64 (wd A 0 : Nat), .int .u64 (wd A 1 : Nat), .int .u64 (wd A 2 : Nat), .int .u64 (wd A 3 : Nat)] 24)).alloc (.cells #[.int .u64 (wd B 0 : Nat), .int .u64 (wd B 1 : Nat), .int .u64 (wd B 2 : Nat), .int .u64 (wd B 3 : Nat)] 24)).alloc (.cells #[.int .u64 (wd M 0 : Nat), .int .u64 (wd M 1 : Nat), .int .u64 (wd M 2 : Nat), .int .u64 (wd M 3 : Nat)] 24)) (w.heap.size) 24 #[.int .u64 (wd A 0 : Nat), .int .u64 (wd A 1 : Nat), .int .u64 (wd A 2 : Nat), .int .u64 (wd A 3 : Nat)] := ((At.at_ _ _ _ _ (by simp)).alloc _).alloc _
  have Nb : At (((w.alloc (.cells #[.int .u64 (wd A 0 : Nat), .int .u64 (wd A 1 : Nat), .int .u64 (wd A 2 : Nat), .int .u64 (wd A 3 : Nat)] 24)).alloc (.cells #[.int .u64 (wd B 0 : Nat), .int .u64 (wd B 1 : Nat), .int .u64 (wd B 2 : Nat), .int .u64 (wd B 3 : Nat)] 24)).alloc (.cells #[.int .u64 (wd M 0 : Nat), .int .u64 (wd M 1 : Nat), .int .u64 (wd M 2 : Nat), .int .u64 (wd M 3 : Nat)] 24)) (w.heap.size + 1) 24 #[.int .u64 (wd B 0 : Nat), .int .u64 (wd B 1 : Nat), .int .u64 (wd B 2 : Nat), .int .u64 (wd B 3 : Nat)] := (At.at_ _ _ _ _ (by simp)).alloc _
  have Nm : At (((w.alloc (.cells #[.int .u64 (wd A 0 : Nat), .int .u64 (wd A 1 : Nat), .int .u64 (wd A 2 : Nat), .int .u64 (wd A 3 : Nat)] 24)).alloc (.cells #[.int .u64 (wd B 0 : Nat), .int .u64 (wd B 1 : Nat), .int .u64 (wd B 2 : Nat), .int .u64 (wd B 3 : Nat)] 24)).alloc (.cells #[.int .u64 (wd M 0 : Nat), .int .u64 (wd M 1 : Nat), .int .u64 (wd M 2 : Nat), .int .u64 (wd M 3 : Nat)] 24)) (w.heap.size + 1 + 1) 24 #[.int .u64 (wd M 0 : Nat), .int .u64 (wd M 1 : Nat), .int .u64 (wd M 2 : Nat), .int .u64 (wd M 3 : Nat)] := At.at_ _ _ _ _ (by simp)
  have NB : Below w.heap.size w (((w.alloc (.cells #[.int .u64 (wd A 0 : Nat), .int .u64 (wd A 1 : Nat), .int .u64 (wd A 2 : Nat), .int .u64 (wd A 3 : Nat)] 24)).alloc (.cells #[.int .u64 (wd B 0 : Nat), .int .u64 (wd B 1 : Nat), .int .u64 (wd B 2 : Nat), .int .u64 (wd B 3 : Nat)] 24)).alloc (.cells #[.int .u64 (wd M 0 : Nat), .int .u64 (wd M 1 : Nat), .int .u64 (wd M 2 : Nat), .int .u64 (wd M 3 : Nat)] 24)) := gr_alloc (gr_alloc (gr_alloc BW.out _) _) _
  clear BW 
  generalize (((w.alloc (.cells #[.int .u64 (wd A 0 : Nat), .int .u64 (wd A 1 : Nat), .int .u64 (wd A 2 : Nat), .int .u64 (wd A 3 : Nat)] 24)).alloc (.cells #[.int .u64 (wd B 0 : Nat), .int .u64 (wd B 1 : Nat), .int .u64 (wd B 2 : Nat), .int .u64 (wd B 3 : Nat)] 24)).alloc (.cells #[.int .u64 (wd M 0 : Nat), .int .u64 (wd M 1 : Nat), .int .u64 (wd M 2 : Nat), .int .u64 (wd M 3 : Nat)] 24)) = W1 at *
  generalize w.heap.size + 1 + 1 = gm at *
  generalize w.heap.size + 1 = gb at *
  obtain ⟨ga, hg0⟩ : ∃ g, g = w.heap.size := ⟨_, rfl⟩
  rw [← hg0] at Na ⊢
  clear hg0
  have Fa := Lib.hid Na
  have Fb := Lib.hid Nb
  have Fm := Lib.hid Nm
  have BW := Lib.hid NB
  clear NB Na Nb Nm
  try simp only [List.append_eq, List.cons_append, List.nil_append]
  refine wp_region_noPanic ?_
  refine wp_region_held_drew (S := fun w' => At w' gm 24 #[.int .u64 (wd M 0 : Nat), .int .u64 (wd M 1 : Nat), .int .u64 (wd M 2 : Nat), .int .u64 (wd M 3 : Nat)]) (by kernel_rfl) (Fm.out.drew) (fun _ => ?_)
  refine wpAnyH_cores (fuel := 0) (⟨0, 23, [], Kind.val (.agg #[.int .u64 (wd M 0 : Nat), .int .u64 (wd M 1 : Nat), .int .u64 (wd M 2 : Nat), .int .u64 (wd M 3 : Nat)]), true⟩ :: ⟨1, 24, [0], Kind.val (.agg #[.int .u64 (wd Z 0 : Nat), .int .u64 (wd Z 1 : Nat), .int .u64 (wd Z 2 : Nat), .int .u64 (wd Z 3 : Nat)]), false⟩ :: ⟨2, 25, [0, 1], Kind.val (.int .i64 k), false⟩ :: ⟨3, 26, [2], Kind.val (.bool true), true⟩ :: []) _ _ W1 _ ?_ ?_ ?_ ?_ ?_ ?_ ?_ ?_ ?_ ?_ ?_
  · rfl
  · kernel_rfl
  · exact of_decide_eq_true (by kernel_rfl)
  · exact all_cons ⟨_, by rfl, by rfl⟩ (all_cons ⟨_, by rfl, by rfl⟩ (all_cons ⟨_, by rfl, by rfl⟩ (all_cons ⟨_, by rfl, by rfl⟩ (all_nil))))
  · exact fun _ hb => Fm.out.on hb
  · exact (Below.refl _ _).drew
  · kernel_rfl
  · exact fun _ _ _ _ _ h => h
  · refine all_cons ?_ (all_cons ?_ (all_cons ?_ (all_cons ?_ (all_nil))))
    · exact coreG_loadP _ _ _ _ _ _ gm _ _ _ _ (by rfl) (by rfl) (wants_none) (known_old 5 _ (of_decide_eq_true (by rfl)) (by rfl)) (fun _ hs => hs)
    · exact core_pureAs _ (by rfl)
    · exact core_pureAs _ (by rfl)
    · exact coreG_bin _ _ _ _ _ _ _ _ _ _ _ _ _ (by rfl) (by rfl) (wants_none) (known_core 2 25 _ _ (of_decide_eq_true (by rfl)) (by rfl) (by rfl) (by rfl)) (known_const _) ((fun ρ w hx hy => by simp only [execOp, hx, hy]; simp [go_sem]; exact hk))
  · refine all_cons ?_ (all_cons ?_ (all_cons ?_ (all_cons ?_ (all_nil))))
    · exact core_stepAs _ (by rfl)
    · exact fun _ => coreG_call _ 28 _ _ [.const (.int .u64 1)] _ _ _ _ _ _ _ (by rfl) Try.func28 (by kernel_rfl) (by rfl) (by rfl) (wants_none) (.cons (known_const _) .nil) (HO.out)
    · exact fun _ => coreG_call _ 27 _ _ [.tmp 23, .tmp 24] _ _ _ _ _ _ _ (by rfl) Try.func27 (by kernel_rfl) (by rfl) (by rfl) (wants_none) (.cons (known_core 0 23 _ _ (of_decide_eq_true (by rfl)) (by rfl) (by rfl) (by rfl)) (.cons (known_core 1 24 _ _ (of_decide_eq_true (by rfl)) (by rfl) (by rfl) (by rfl)) .nil)) (HK.out)
    · exact core_stepAs _ (by rfl)
  intro vs y2 hc
  obtain ⟨vv0, vv1, vv2, vv3, rfl⟩ := len4 vs hc.lv
  have qq0 : vv0 = .agg #[.int .u64 (wd M 0 : Nat), .int .u64 (wd M 1 : Nat), .int .u64 (wd M 2 : Nat), .int .u64 (wd M 3 : Nat)] := by obtain ⟨xx, hx, hy⟩ := hc.ok 0 _ rfl rfl; exact (Option.some.inj (show some vv0 = some xx from hx)).trans hy
  have qq1 : vv1 = .agg #[.int .u64 (wd Z 0 : Nat), .int .u64 (wd Z 1 : Nat), .int .u64 (wd Z 2 : Nat), .int .u64 (wd Z 3 : Nat)] := by obtain ⟨xx, hx, hy⟩ := hc.ok 1 _ rfl rfl; exact (Option.some.inj (show some vv1 = some xx from hx)).trans hy
  have qq2 : vv2 = .int .i64 k := by obtain ⟨xx, hx, hy⟩ := hc.ok 2 _ rfl rfl; exact (Option.some.inj (show some vv2 = some xx from hx)).trans hy
  have qq3 : vv3 = .bool true := by obtain ⟨xx, hx, hy⟩ := hc.ok 3 _ rfl rfl; exact (Option.some.inj (show some vv3 = some xx from hx)).trans hy
  have BZ := hc.bel
  clear hc
  have Na := Fa.out.on BZ
  have Nb := Fb.out.on BZ
  have Nm := Fm.out.on BZ
  have NB := bel_tr BW.out BZ
  clear BW BZ Fa Fb Fm
  subst qq0 qq1 qq2 qq3
  simp only [List.map_cons, List.map_nil, over, Act.put, List.setIfInBounds_toArray, List.set_cons_zero, List.set_cons_succ]
  refine wpAnyH_done (by kernel_rfl) ?_ _
  refine NoPanic.normal ?_
  have Fa := Lib.hid Na
  have Fb := Lib.hid Nb
  have Fm := Lib.hid Nm
  have BW := Lib.hid NB
  clear NB Na Nb Nm
  go_wp2_with fail
  refine (alive4_any _).mono ?_
  rintro e v3 ⟨rfl, z3⟩
  have Na := Lib.hid (Fa.out.on z3)
  have Nb := Lib.hid (Fb.out.on z3)
  have Nm := Lib.hid (Fm.out.on z3)
  have NB := Lib.hid (bel_tr BW.out z3)
  clear BW z3 Fa Fb Fm
  have Fa := Na
  have Fb := Nb
  have Fm := Nm
  have BW := NB
  clear NB Na Nb Nm
  go_wp2_with fail
  go_ret
  exact ⟨rfl, BW.out⟩

set_option maxRecDepth 100000 in
set_option maxHeartbeats 8000000 in
theorem whole_some (A B M Z L H S mo p q a b z : Nat) (k : Int)
    (hk : 0 < k)
    (O : ∀ w, Calls Try.prog 28 #[.int .u64 1] w fun e w' => e = .returned (num Z) ∧ Below w.heap.size w w')
    (K : ∀ w, Calls Try.prog 27 #[num M, num Z] w fun e w' => e = .returned (.int .i64 k) ∧ Below w.heap.size w w')
    (X1 : ∀ w, Calls Try.prog 31 #[num A, num B] w fun e w' => e = .returned (.tuple #[num L, num H]) ∧ Below w.heap.size w w')
    (X2 : ∀ w, Calls Try.prog 13 #[num L, num H, num M] w fun e w' => e = .returned (.tuple #[num p, .int .i64 0]) ∧ Below w.heap.size w w')
    (X3 : ∀ w, Calls Try.prog 32 #[num A, num B] w fun e w' => e = .returned (.tuple #[num S, .int .u64 (mo : Nat)]) ∧ Below w.heap.size w w')
    (X4 : ∀ w, Calls Try.prog 28 #[.int .u64 (mo : Nat)] w fun e w' => e = .returned (num mo) ∧ Below w.heap.size w w')
    (X5 : ∀ w, Calls Try.prog 13 #[num S, num mo, num M] w fun e w' => e = .returned (.tuple #[num q, .int .i64 0]) ∧ Below w.heap.size w w')
    (B1 : ∀ w, Calls Try.prog 30 #[num A, num M] w fun e w' => e = .returned (num a) ∧ Below w.heap.size w w')
    (B2 : ∀ w, Calls Try.prog 30 #[num B, num M] w fun e w' => e = .returned (num b) ∧ Below w.heap.size w w')
    (Y1 : ∀ w, Calls Try.prog 19 #[num a, num b, num M] w fun e w' => e = .returned (.tuple #[num p, .int .i64 0]) ∧ Below w.heap.size w w')
    (Y2 : ∀ w, Calls Try.prog 17 #[num a, num b, num M] w fun e w' => e = .returned (.tuple #[num q, .int .i64 0]) ∧ Below w.heap.size w w')
    (Y3 : ∀ w, Calls Try.prog 18 #[num a, num b, num M] w fun e w' => e = .returned (.tuple #[num z, .int .i64 0]) ∧ Below w.heap.size w w')
    (Y4 : ∀ w, Calls Try.prog 17 #[num z, num b, num M] w fun e w' => e = .returned (.tuple #[num a, .int .i64 0]) ∧ Below w.heap.size w w')
    (w : World) : Calls Try.prog 6 #[num A, num B, num M] w fun e w' => e = .returned (.bool true) ∧ Below w.heap.size w w' := by
  have HO := Lib.hid O
  have HK := Lib.hid K
  have HX1 := Lib.hid X1
  have HX2 := Lib.hid X2
  have HX3 := Lib.hid X3
  have HX4 := Lib.hid X4
  have HX5 := Lib.hid X5
  have HB1 := Lib.hid B1
  have HB2 := Lib.hid B2
  have HY1 := Lib.hid Y1
  have HY2 := Lib.hid Y2
  have HY3 := Lib.hid Y3
  have HY4 := Lib.hid Y4
  clear O K X1 X2 X3 X4 X5 B1 B2 Y1 Y2 Y3 Y4
  go_enter Try.func6, Try.ntmps6
  go_wp2_with fail
  have BW := Lib.hid (Below.refl w.heap.size w)
  have Na : At (((w.alloc (.cells #[.int .u64 (wd A 0 : Nat), .int .u64 (wd A 1 : Nat), .int .u64 (wd A 2 : Nat), .int .u64 (wd A 3 : Nat)] 24)).alloc (.cells #[.int .u64 (wd B 0 : Nat), .int .u64 (wd B 1 : Nat), .int .u64 (wd B 2 : Nat), .int .u64 (wd B 3 : Nat)] 24)).alloc (.cells #[.int .u64 (wd M 0 : Nat), .int .u64 (wd M 1 : Nat), .int .u64 (wd M 2 : Nat), .int .u64 (wd M 3 : Nat)] 24)) (w.heap.size) 24 #[.int .u64 (wd A 0 : Nat), .int .u64 (wd A 1 : Nat), .int .u64 (wd A 2 : Nat), .int .u64 (wd A 3 : Nat)] := ((At.at_ _ _ _ _ (by simp)).alloc _).alloc _
  have Nb : At (((w.alloc (.cells #[.int .u64 (wd A 0 : Nat), .int .u64 (wd A 1 : Nat), .int .u64 (wd A 2 : Nat), .int .u64 (wd A 3 : Nat)] 24)).alloc (.cells #[.int .u64 (wd B 0 : Nat), .int .u64 (wd B 1 : Nat), .int .u64 (wd B 2 : Nat), .int .u64 (wd B 3 : Nat)] 24)).alloc (.cells #[.int .u64 (wd M 0 : Nat), .int .u64 (wd M 1 : Nat), .int .u64 (wd M 2 : Nat), .int .u64 (wd M 3 : Nat)] 24)) (w.heap.size + 1) 24 #[.int .u64 (wd B 0 : Nat), .int .u64 (wd B 1 : Nat), .int .u64 (wd B 2 : Nat), .int .u64 (wd B 3 : Nat)] := (At.at_ _ _ _ _ (by simp)).alloc _
  have Nm : At (((w.alloc (.cells #[.int .u64 (wd A 0 : Nat), .int .u64 (wd A 1 : Nat), .int .u64 (wd A 2 : Nat), .int .u64 (wd A 3 : Nat)] 24)).alloc (.cells #[.int .u64 (wd B 0 : Nat), .int .u64 (wd B 1 : Nat), .int .u64 (wd B 2 : Nat), .int .u64 (wd B 3 : Nat)] 24)).alloc (.cells #[.int .u64 (wd M 0 : Nat), .int .u64 (wd M 1 : Nat), .int .u64 (wd M 2 : Nat), .int .u64 (wd M 3 : Nat)] 24)) (w.heap.size + 1 + 1) 24 #[.int .u64 (wd M 0 : Nat), .int .u64 (wd M 1 : Nat), .int .u64 (wd M 2 : Nat), .int .u64 (wd M 3 : Nat)] := At.at_ _ _ _ _ (by simp)
  have NB : Below w.heap.size w (((w.alloc (.cells #[.int .u64 (wd A 0 : Nat), .int .u64 (wd A 1 : Nat), .int .u64 (wd A 2 : Nat), .int .u64 (wd A 3 : Nat)] 24)).alloc (.cells #[.int .u64 (wd B 0 : Nat), .int .u64 (wd B 1 : Nat), .int .u64 (wd B 2 : Nat), .int .u64 (wd B 3 : Nat)] 24)).alloc (.cells #[.int .u64 (wd M 0 : Nat), .int .u64 (wd M 1 : Nat), .int .u64 (wd M 2 : Nat), .int .u64 (wd M 3 : Nat)] 24)) := gr_alloc (gr_alloc (gr_alloc BW.out _) _) _
  clear BW 
  generalize (((w.alloc (.cells #[.int .u64 (wd A 0 : Nat), .int .u64 (wd A 1 : Nat), .int .u64 (wd A 2 : Nat), .int .u64 (wd A 3 : Nat)] 24)).alloc (.cells #[.int .u64 (wd B 0 : Nat), .int .u64 (wd B 1 : Nat), .int .u64 (wd B 2 : Nat), .int .u64 (wd B 3 : Nat)] 24)).alloc (.cells #[.int .u64 (wd M 0 : Nat), .int .u64 (wd M 1 : Nat), .int .u64 (wd M 2 : Nat), .int .u64 (wd M 3 : Nat)] 24)) = W1 at *
  generalize w.heap.size + 1 + 1 = gm at *
  generalize w.heap.size + 1 = gb at *
  obtain ⟨ga, hg0⟩ : ∃ g, g = w.heap.size := ⟨_, rfl⟩
  rw [← hg0] at Na ⊢
  clear hg0
  have Fa := Lib.hid Na
  have Fb := Lib.hid Nb
  have Fm := Lib.hid Nm
  have BW := Lib.hid NB
  clear NB Na Nb Nm
  try simp only [List.append_eq, List.cons_append, List.nil_append]
  refine wp_region_noPanic ?_
  refine wp_region_held_drew (S := fun w' => At w' gm 24 #[.int .u64 (wd M 0 : Nat), .int .u64 (wd M 1 : Nat), .int .u64 (wd M 2 : Nat), .int .u64 (wd M 3 : Nat)]) (by kernel_rfl) (Fm.out.drew) (fun _ => ?_)
  refine wpAnyH_cores (fuel := 0) (⟨0, 23, [], Kind.val (.agg #[.int .u64 (wd M 0 : Nat), .int .u64 (wd M 1 : Nat), .int .u64 (wd M 2 : Nat), .int .u64 (wd M 3 : Nat)]), true⟩ :: ⟨1, 24, [0], Kind.val (.agg #[.int .u64 (wd Z 0 : Nat), .int .u64 (wd Z 1 : Nat), .int .u64 (wd Z 2 : Nat), .int .u64 (wd Z 3 : Nat)]), false⟩ :: ⟨2, 25, [0, 1], Kind.val (.int .i64 k), false⟩ :: ⟨3, 26, [2], Kind.val (.bool false), true⟩ :: []) _ _ W1 _ ?_ ?_ ?_ ?_ ?_ ?_ ?_ ?_ ?_ ?_ ?_
  · rfl
  · kernel_rfl
  · exact of_decide_eq_true (by kernel_rfl)
  · exact all_cons ⟨_, by rfl, by rfl⟩ (all_cons ⟨_, by rfl, by rfl⟩ (all_cons ⟨_, by rfl, by rfl⟩ (all_cons ⟨_, by rfl, by rfl⟩ (all_nil))))
  · exact fun _ hb => Fm.out.on hb
  · exact (Below.refl _ _).drew
  · kernel_rfl
  · exact fun _ _ _ _ _ h => h
  · refine all_cons ?_ (all_cons ?_ (all_cons ?_ (all_cons ?_ (all_nil))))
    · exact coreG_loadP _ _ _ _ _ _ gm _ _ _ _ (by rfl) (by rfl) (wants_none) (known_old 5 _ (of_decide_eq_true (by rfl)) (by rfl)) (fun _ hs => hs)
    · exact core_pureAs _ (by rfl)
    · exact core_pureAs _ (by rfl)
    · exact coreG_bin _ _ _ _ _ _ _ _ _ _ _ _ _ (by rfl) (by rfl) (wants_none) (known_core 2 25 _ _ (of_decide_eq_true (by rfl)) (by rfl) (by rfl) (by rfl)) (known_const _) ((fun ρ w hx hy => by simp only [execOp, hx, hy]; simp [go_sem]; exact hk))
  · refine all_cons ?_ (all_cons ?_ (all_cons ?_ (all_cons ?_ (all_nil))))
    · exact core_stepAs _ (by rfl)
    · exact fun _ => coreG_call _ 28 _ _ [.const (.int .u64 1)] _ _ _ _ _ _ _ (by rfl) Try.func28 (by kernel_rfl) (by rfl) (by rfl) (wants_none) (.cons (known_const _) .nil) (HO.out)
    · exact fun _ => coreG_call _ 27 _ _ [.tmp 23, .tmp 24] _ _ _ _ _ _ _ (by rfl) Try.func27 (by kernel_rfl) (by rfl) (by rfl) (wants_none) (.cons (known_core 0 23 _ _ (of_decide_eq_true (by rfl)) (by rfl) (by rfl) (by rfl)) (.cons (known_core 1 24 _ _ (of_decide_eq_true (by rfl)) (by rfl) (by rfl) (by rfl)) .nil)) (HK.out)
    · exact core_stepAs _ (by rfl)
  intro vs y2 hc
  obtain ⟨vv0, vv1, vv2, vv3, rfl⟩ := len4 vs hc.lv
  have qq0 : vv0 = .agg #[.int .u64 (wd M 0 : Nat), .int .u64 (wd M 1 : Nat), .int .u64 (wd M 2 : Nat), .int .u64 (wd M 3 : Nat)] := by obtain ⟨xx, hx, hy⟩ := hc.ok 0 _ rfl rfl; exact (Option.some.inj (show some vv0 = some xx from hx)).trans hy
  have qq1 : vv1 = .agg #[.int .u64 (wd Z 0 : Nat), .int .u64 (wd Z 1 : Nat), .int .u64 (wd Z 2 : Nat), .int .u64 (wd Z 3 : Nat)] := by obtain ⟨xx, hx, hy⟩ := hc.ok 1 _ rfl rfl; exact (Option.some.inj (show some vv1 = some xx from hx)).trans hy
  have qq2 : vv2 = .int .i64 k := by obtain ⟨xx, hx, hy⟩ := hc.ok 2 _ rfl rfl; exact (Option.some.inj (show some vv2 = some xx from hx)).trans hy
  have qq3 : vv3 = .bool false := by obtain ⟨xx, hx, hy⟩ := hc.ok 3 _ rfl rfl; exact (Option.some.inj (show some vv3 = some xx from hx)).trans hy
  have BZ := hc.bel
  clear hc
  have Na := Fa.out.on BZ
  have Nb := Fb.out.on BZ
  have Nm := Fm.out.on BZ
  have NB := bel_tr BW.out BZ
  clear BW BZ Fa Fb Fm
  subst qq0 qq1 qq2 qq3
  simp only [List.map_cons, List.map_nil, over, Act.put, List.setIfInBounds_toArray, List.set_cons_zero, List.set_cons_succ]
  refine wpAnyH_done (by kernel_rfl) ?_ _
  refine NoPanic.normal ?_
  have Fa := Lib.hid Na
  have Fb := Lib.hid Nb
  have Fm := Lib.hid Nm
  have BW := Lib.hid NB
  clear NB Na Nb Nm
  have La := Fa.out.lt
  have ca0 : y2.cell? ⟨ga, 0, none⟩ = some (.int .u64 (wd A 0 : Nat)) := Fa.out.cell 0
  have ca1 : y2.cell? ⟨ga, 1, none⟩ = some (.int .u64 (wd A 1 : Nat)) := Fa.out.cell 1
  have ca2 : y2.cell? ⟨ga, 2, none⟩ = some (.int .u64 (wd A 2 : Nat)) := Fa.out.cell 2
  have ca3 : y2.cell? ⟨ga, 3, none⟩ = some (.int .u64 (wd A 3 : Nat)) := Fa.out.cell 3
  have Lb := Fb.out.lt
  have cb0 : y2.cell? ⟨gb, 0, none⟩ = some (.int .u64 (wd B 0 : Nat)) := Fb.out.cell 0
  have cb1 : y2.cell? ⟨gb, 1, none⟩ = some (.int .u64 (wd B 1 : Nat)) := Fb.out.cell 1
  have cb2 : y2.cell? ⟨gb, 2, none⟩ = some (.int .u64 (wd B 2 : Nat)) := Fb.out.cell 2
  have cb3 : y2.cell? ⟨gb, 3, none⟩ = some (.int .u64 (wd B 3 : Nat)) := Fb.out.cell 3
  go_wp2_with fail
  clear La ca0 ca1 ca2 ca3 Lb cb0 cb1 cb2 cb3
  refine (HX1.out _).mono ?_
  rintro e v3 ⟨rfl, z3⟩
  have Na := Lib.hid (Fa.out.on z3)
  have Nb := Lib.hid (Fb.out.on z3)
  have Nm := Lib.hid (Fm.out.on z3)
  have NB := Lib.hid (bel_tr BW.out z3)
  clear BW z3 Fa Fb Fm
  have Fa := Na
  have Fb := Nb
  have Fm := Nm
  have BW := NB
  clear NB Na Nb Nm
  have Lm := Fm.out.lt
  have cm0 : v3.cell? ⟨gm, 0, none⟩ = some (.int .u64 (wd M 0 : Nat)) := Fm.out.cell 0
  have cm1 : v3.cell? ⟨gm, 1, none⟩ = some (.int .u64 (wd M 1 : Nat)) := Fm.out.cell 1
  have cm2 : v3.cell? ⟨gm, 2, none⟩ = some (.int .u64 (wd M 2 : Nat)) := Fm.out.cell 2
  have cm3 : v3.cell? ⟨gm, 3, none⟩ = some (.int .u64 (wd M 3 : Nat)) := Fm.out.cell 3
  go_wp2_with fail
  clear Lm cm0 cm1 cm2 cm3
  have Nl : At ((v3.alloc (.cells #[.int .u64 (wd L 0 : Nat), .int .u64 (wd L 1 : Nat), .int .u64 (wd L 2 : Nat), .int .u64 (wd L 3 : Nat)] 24)).alloc (.cells #[.int .u64 (wd H 0 : Nat), .int .u64 (wd H 1 : Nat), .int .u64 (wd H 2 : Nat), .int .u64 (wd H 3 : Nat)] 24)) (v3.heap.size) 24 #[.int .u64 (wd L 0 : Nat), .int .u64 (wd L 1 : Nat), .int .u64 (wd L 2 : Nat), .int .u64 (wd L 3 : Nat)] := (At.at_ _ _ _ _ (by simp)).alloc _
  have Nh : At ((v3.alloc (.cells #[.int .u64 (wd L 0 : Nat), .int .u64 (wd L 1 : Nat), .int .u64 (wd L 2 : Nat), .int .u64 (wd L 3 : Nat)] 24)).alloc (.cells #[.int .u64 (wd H 0 : Nat), .int .u64 (wd H 1 : Nat), .int .u64 (wd H 2 : Nat), .int .u64 (wd H 3 : Nat)] 24)) (v3.heap.size + 1) 24 #[.int .u64 (wd H 0 : Nat), .int .u64 (wd H 1 : Nat), .int .u64 (wd H 2 : Nat), .int .u64 (wd H 3 : Nat)] := At.at_ _ _ _ _ (by simp)
  have Na : At ((v3.alloc (.cells #[.int .u64 (wd L 0 : Nat), .int .u64 (wd L 1 : Nat), .int .u64 (wd L 2 : Nat), .int .u64 (wd L 3 : Nat)] 24)).alloc (.cells #[.int .u64 (wd H 0 : Nat), .int .u64 (wd H 1 : Nat), .int .u64 (wd H 2 : Nat), .int .u64 (wd H 3 : Nat)] 24)) ga 24 #[.int .u64 (wd A 0 : Nat), .int .u64 (wd A 1 : Nat), .int .u64 (wd A 2 : Nat), .int .u64 (wd A 3 : Nat)] := (Fa.out.alloc _).alloc _
  have Nb : At ((v3.alloc (.cells #[.int .u64 (wd L 0 : Nat), .int .u64 (wd L 1 : Nat), .int .u64 (wd L 2 : Nat), .int .u64 (wd L 3 : Nat)] 24)).alloc (.cells #[.int .u64 (wd H 0 : Nat), .int .u64 (wd H 1 : Nat), .int .u64 (wd H 2 : Nat), .int .u64 (wd H 3 : Nat)] 24)) gb 24 #[.int .u64 (wd B 0 : Nat), .int .u64 (wd B 1 : Nat), .int .u64 (wd B 2 : Nat), .int .u64 (wd B 3 : Nat)] := (Fb.out.alloc _).alloc _
  have Nm : At ((v3.alloc (.cells #[.int .u64 (wd L 0 : Nat), .int .u64 (wd L 1 : Nat), .int .u64 (wd L 2 : Nat), .int .u64 (wd L 3 : Nat)] 24)).alloc (.cells #[.int .u64 (wd H 0 : Nat), .int .u64 (wd H 1 : Nat), .int .u64 (wd H 2 : Nat), .int .u64 (wd H 3 : Nat)] 24)) gm 24 #[.int .u64 (wd M 0 : Nat), .int .u64 (wd M 1 : Nat), .int .u64 (wd M 2 : Nat), .int .u64 (wd M 3 : Nat)] := (Fm.out.alloc _).alloc _
  have NB : Below w.heap.size w ((v3.alloc (.cells #[.int .u64 (wd L 0 : Nat), .int .u64 (wd L 1 : Nat), .int .u64 (wd L 2 : Nat), .int .u64 (wd L 3 : Nat)] 24)).alloc (.cells #[.int .u64 (wd H 0 : Nat), .int .u64 (wd H 1 : Nat), .int .u64 (wd H 2 : Nat), .int .u64 (wd H 3 : Nat)] 24)) := gr_alloc (gr_alloc BW.out _) _
  clear BW Fa Fb Fm
  generalize ((v3.alloc (.cells #[.int .u64 (wd L 0 : Nat), .int .u64 (wd L 1 : Nat), .int .u64 (wd L 2 : Nat), .int .u64 (wd L 3 : Nat)] 24)).alloc (.cells #[.int .u64 (wd H 0 : Nat), .int .u64 (wd H 1 : Nat), .int .u64 (wd H 2 : Nat), .int .u64 (wd H 3 : Nat)] 24)) = W4 at *
  generalize v3.heap.size + 1 = gh at *
  generalize v3.heap.size = gl at *
  have Fa := Lib.hid Na
  have Fb := Lib.hid Nb
  have Fm := Lib.hid Nm
  have Fl := Lib.hid Nl
  have Fh := Lib.hid Nh
  have BW := Lib.hid NB
  clear NB Na Nb Nm Nl Nh
  refine (HX2.out _).mono ?_
  rintro e v5 ⟨rfl, z5⟩
  have Na := Lib.hid (Fa.out.on z5)
  have Nb := Lib.hid (Fb.out.on z5)
  have Nm := Lib.hid (Fm.out.on z5)
  have Nl := Lib.hid (Fl.out.on z5)
  have Nh := Lib.hid (Fh.out.on z5)
  have NB := Lib.hid (bel_tr BW.out z5)
  clear BW z5 Fa Fb Fm Fl Fh
  have Fa := Na
  have Fb := Nb
  have Fm := Nm
  have Fl := Nl
  have Fh := Nh
  have BW := NB
  clear NB Na Nb Nm Nl Nh
  have La := Fa.out.lt
  have ca0 : v5.cell? ⟨ga, 0, none⟩ = some (.int .u64 (wd A 0 : Nat)) := Fa.out.cell 0
  have ca1 : v5.cell? ⟨ga, 1, none⟩ = some (.int .u64 (wd A 1 : Nat)) := Fa.out.cell 1
  have ca2 : v5.cell? ⟨ga, 2, none⟩ = some (.int .u64 (wd A 2 : Nat)) := Fa.out.cell 2
  have ca3 : v5.cell? ⟨ga, 3, none⟩ = some (.int .u64 (wd A 3 : Nat)) := Fa.out.cell 3
  have Lb := Fb.out.lt
  have cb0 : v5.cell? ⟨gb, 0, none⟩ = some (.int .u64 (wd B 0 : Nat)) := Fb.out.cell 0
  have cb1 : v5.cell? ⟨gb, 1, none⟩ = some (.int .u64 (wd B 1 : Nat)) := Fb.out.cell 1
  have cb2 : v5.cell? ⟨gb, 2, none⟩ = some (.int .u64 (wd B 2 : Nat)) := Fb.out.cell 2
  have cb3 : v5.cell? ⟨gb, 3, none⟩ = some (.int .u64 (wd B 3 : Nat)) := Fb.out.cell 3
  go_wp2_with fail
  clear La ca0 ca1 ca2 ca3 Lb cb0 cb1 cb2 cb3
  have Np : At (v5.alloc (.cells #[.int .u64 (wd p 0 : Nat), .int .u64 (wd p 1 : Nat), .int .u64 (wd p 2 : Nat), .int .u64 (wd p 3 : Nat)] 24)) (v5.heap.size) 24 #[.int .u64 (wd p 0 : Nat), .int .u64 (wd p 1 : Nat), .int .u64 (wd p 2 : Nat), .int .u64 (wd p 3 : Nat)] := At.at_ _ _ _ _ (by simp)
  have Na : At (v5.alloc (.cells #[.int .u64 (wd p 0 : Nat), .int .u64 (wd p 1 : Nat), .int .u64 (wd p 2 : Nat), .int .u64 (wd p 3 : Nat)] 24)) ga 24 #[.int .u64 (wd A 0 : Nat), .int .u64 (wd A 1 : Nat), .int .u64 (wd A 2 : Nat), .int .u64 (wd A 3 : Nat)] := Fa.out.alloc _
  have Nb : At (v5.alloc (.cells #[.int .u64 (wd p 0 : Nat), .int .u64 (wd p 1 : Nat), .int .u64 (wd p 2 : Nat), .int .u64 (wd p 3 : Nat)] 24)) gb 24 #[.int .u64 (wd B 0 : Nat), .int .u64 (wd B 1 : Nat), .int .u64 (wd B 2 : Nat), .int .u64 (wd B 3 : Nat)] := Fb.out.alloc _
  have Nm : At (v5.alloc (.cells #[.int .u64 (wd p 0 : Nat), .int .u64 (wd p 1 : Nat), .int .u64 (wd p 2 : Nat), .int .u64 (wd p 3 : Nat)] 24)) gm 24 #[.int .u64 (wd M 0 : Nat), .int .u64 (wd M 1 : Nat), .int .u64 (wd M 2 : Nat), .int .u64 (wd M 3 : Nat)] := Fm.out.alloc _
  have Nl : At (v5.alloc (.cells #[.int .u64 (wd p 0 : Nat), .int .u64 (wd p 1 : Nat), .int .u64 (wd p 2 : Nat), .int .u64 (wd p 3 : Nat)] 24)) gl 24 #[.int .u64 (wd L 0 : Nat), .int .u64 (wd L 1 : Nat), .int .u64 (wd L 2 : Nat), .int .u64 (wd L 3 : Nat)] := Fl.out.alloc _
  have Nh : At (v5.alloc (.cells #[.int .u64 (wd p 0 : Nat), .int .u64 (wd p 1 : Nat), .int .u64 (wd p 2 : Nat), .int .u64 (wd p 3 : Nat)] 24)) gh 24 #[.int .u64 (wd H 0 : Nat), .int .u64 (wd H 1 : Nat), .int .u64 (wd H 2 : Nat), .int .u64 (wd H 3 : Nat)] := Fh.out.alloc _
  have NB : Below w.heap.size w (v5.alloc (.cells #[.int .u64 (wd p 0 : Nat), .int .u64 (wd p 1 : Nat), .int .u64 (wd p 2 : Nat), .int .u64 (wd p 3 : Nat)] 24)) := gr_alloc BW.out _
  clear BW Fa Fb Fm Fl Fh
  generalize (v5.alloc (.cells #[.int .u64 (wd p 0 : Nat), .int .u64 (wd p 1 : Nat), .int .u64 (wd p 2 : Nat), .int .u64 (wd p 3 : Nat)] 24)) = W6 at *
  generalize v5.heap.size = gp at *
  have Fa := Lib.hid Na
  have Fb := Lib.hid Nb
  have Fm := Lib.hid Nm
  have Fl := Lib.hid Nl
  have Fh := Lib.hid Nh
  have Fp := Lib.hid Np
  have BW := Lib.hid NB
  clear NB Na Nb Nm Nl Nh Np
  clear Fl
  clear Fh
  refine (HX3.out _).mono ?_
  rintro e v7 ⟨rfl, z7⟩
  have Na := Lib.hid (Fa.out.on z7)
  have Nb := Lib.hid (Fb.out.on z7)
  have Nm := Lib.hid (Fm.out.on z7)
  have Np := Lib.hid (Fp.out.on z7)
  have NB := Lib.hid (bel_tr BW.out z7)
  clear BW z7 Fa Fb Fm Fp
  have Fa := Na
  have Fb := Nb
  have Fm := Nm
  have Fp := Np
  have BW := NB
  clear NB Na Nb Nm Np
  go_wp2_with fail
  have Ns : At (v7.alloc (.cells #[.int .u64 (wd S 0 : Nat), .int .u64 (wd S 1 : Nat), .int .u64 (wd S 2 : Nat), .int .u64 (wd S 3 : Nat)] 24)) (v7.heap.size) 24 #[.int .u64 (wd S 0 : Nat), .int .u64 (wd S 1 : Nat), .int .u64 (wd S 2 : Nat), .int .u64 (wd S 3 : Nat)] := At.at_ _ _ _ _ (by simp)
  have Na : At (v7.alloc (.cells #[.int .u64 (wd S 0 : Nat), .int .u64 (wd S 1 : Nat), .int .u64 (wd S 2 : Nat), .int .u64 (wd S 3 : Nat)] 24)) ga 24 #[.int .u64 (wd A 0 : Nat), .int .u64 (wd A 1 : Nat), .int .u64 (wd A 2 : Nat), .int .u64 (wd A 3 : Nat)] := Fa.out.alloc _
  have Nb : At (v7.alloc (.cells #[.int .u64 (wd S 0 : Nat), .int .u64 (wd S 1 : Nat), .int .u64 (wd S 2 : Nat), .int .u64 (wd S 3 : Nat)] 24)) gb 24 #[.int .u64 (wd B 0 : Nat), .int .u64 (wd B 1 : Nat), .int .u64 (wd B 2 : Nat), .int .u64 (wd B 3 : Nat)] := Fb.out.alloc _
  have Nm : At (v7.alloc (.cells #[.int .u64 (wd S 0 : Nat), .int .u64 (wd S 1 : Nat), .int .u64 (wd S 2 : Nat), .int .u64 (wd S 3 : Nat)] 24)) gm 24 #[.int .u64 (wd M 0 : Nat), .int .u64 (wd M 1 : Nat), .int .u64 (wd M 2 : Nat), .int .u64 (wd M 3 : Nat)] := Fm.out.alloc _
  have Np : At (v7.alloc (.cells #[.int .u64 (wd S 0 : Nat), .int .u64 (wd S 1 : Nat), .int .u64 (wd S 2 : Nat), .int .u64 (wd S 3 : Nat)] 24)) gp 24 #[.int .u64 (wd p 0 : Nat), .int .u64 (wd p 1 : Nat), .int .u64 (wd p 2 : Nat), .int .u64 (wd p 3 : Nat)] := Fp.out.alloc _
  have NB : Below w.heap.size w (v7.alloc (.cells #[.int .u64 (wd S 0 : Nat), .int .u64 (wd S 1 : Nat), .int .u64 (wd S 2 : Nat), .int .u64 (wd S 3 : Nat)] 24)) := gr_alloc BW.out _
  clear BW Fa Fb Fm Fp
  generalize (v7.alloc (.cells #[.int .u64 (wd S 0 : Nat), .int .u64 (wd S 1 : Nat), .int .u64 (wd S 2 : Nat), .int .u64 (wd S 3 : Nat)] 24)) = W8 at *
  generalize v7.heap.size = gs at *
  have Fa := Lib.hid Na
  have Fb := Lib.hid Nb
  have Fm := Lib.hid Nm
  have Fp := Lib.hid Np
  have Fs := Lib.hid Ns
  have BW := Lib.hid NB
  clear NB Na Nb Nm Np Ns
  try simp only [List.append_eq, List.cons_append, List.nil_append]
  refine wp_region_noPanic ?_
  refine wp_region_held_drew (S := fun w' => True) (by kernel_rfl) (trivial) (fun _ => ?_)
  refine wpAnyH_cores (fuel := 2) (⟨0, 48, [], Kind.val (.agg #[.int .u64 (wd S 0 : Nat), .int .u64 (wd S 1 : Nat), .int .u64 (wd S 2 : Nat), .int .u64 (wd S 3 : Nat)]), false⟩ :: ⟨1, 49, [], Kind.val (.int .u64 (mo : Nat)), true⟩ :: ⟨2, 50, [1], Kind.val (.agg #[.int .u64 (wd mo 0 : Nat), .int .u64 (wd mo 1 : Nat), .int .u64 (wd mo 2 : Nat), .int .u64 (wd mo 3 : Nat)]), false⟩ :: ⟨3, 51, [], Kind.val (.agg #[.int .u64 (wd M 0 : Nat), .int .u64 (wd M 1 : Nat), .int .u64 (wd M 2 : Nat), .int .u64 (wd M 3 : Nat)]), false⟩ :: ⟨4, 52, [0, 2, 3], Kind.val (.tuple #[.agg #[.int .u64 (wd q 0 : Nat), .int .u64 (wd q 1 : Nat), .int .u64 (wd q 2 : Nat), .int .u64 (wd q 3 : Nat)], .int .i64 0]), false⟩ :: ⟨5, 47, [4], Kind.val (.tuple #[.agg #[.int .u64 (wd q 0 : Nat), .int .u64 (wd q 1 : Nat), .int .u64 (wd q 2 : Nat), .int .u64 (wd q 3 : Nat)], .int .i64 0]), true⟩ :: ⟨6, 53, [5], Kind.val (.agg #[.int .u64 (wd q 0 : Nat), .int .u64 (wd q 1 : Nat), .int .u64 (wd q 2 : Nat), .int .u64 (wd q 3 : Nat)]), true⟩ :: ⟨7, 54, [5], Kind.val (.int .i64 0), true⟩ :: ⟨8, 13, [], Kind.cell W8.heap.size 24 #[.int .u64 0, .int .u64 0, .int .u64 0, .int .u64 0], false⟩ :: []) _ _ W8 _ ?_ ?_ ?_ ?_ ?_ ?_ ?_ ?_ ?_ ?_ ?_
  · rfl
  · kernel_rfl
  · exact of_decide_eq_true rfl
  · exact all_cons ⟨_, rfl, rfl⟩ (all_cons ⟨_, rfl, rfl⟩ (all_cons ⟨_, rfl, rfl⟩ (all_cons ⟨_, rfl, rfl⟩ (all_cons ⟨_, rfl, rfl⟩ (all_cons ⟨_, rfl, rfl⟩ (all_cons ⟨_, rfl, rfl⟩ (all_cons ⟨_, rfl, rfl⟩ (all_cons ⟨_, rfl, rfl⟩ (all_nil)))))))))
  · exact fun _ hb => trivial
  · exact (Below.refl _ _).drew
  · kernel_rfl
  · exact fun _ _ _ _ _ h => h
  · refine all_cons ?_ (all_cons ?_ (all_cons ?_ (all_cons ?_ (all_cons ?_ (all_cons ?_ (all_cons ?_ (all_cons ?_ (all_cons ?_ (all_nil)))))))))
    · exact core_pureAs _ (by rfl)
    · exact core_move _ _ _ _ _ _ (by rfl) (by rfl) (known_old 12 _ (of_decide_eq_true (by rfl)) (by rfl))
    · exact core_pureAs _ (by rfl)
    · exact core_pureAs _ (by rfl)
    · exact core_pureAs _ (by rfl)
    · exact core_move _ _ _ _ _ _ (by rfl) (by rfl) (known_core 4 52 _ _ (of_decide_eq_true (by rfl)) (by rfl) (by rfl) (by rfl))
    · exact core_extract _ _ 0 _ _ _ _ _ (by rfl) (by rfl) (known_core 5 47 _ _ (of_decide_eq_true (by rfl)) (by rfl) (by rfl) (by rfl)) (by rfl)
    · exact core_extract _ _ 1 _ _ _ _ _ (by rfl) (by rfl) (known_core 5 47 _ _ (of_decide_eq_true (by rfl)) (by rfl) (by rfl) (by rfl)) (by rfl)
    · exact core_pureAs _ (by rfl)
  · refine all_cons ?_ (all_cons ?_ (all_cons ?_ (all_cons ?_ (all_cons ?_ (all_cons ?_ (all_cons ?_ (all_cons ?_ (all_cons ?_ (all_nil)))))))))
    · exact fun _ => core_load _ _ _ _ _ gs _ _ _ _ (by rfl) (by rfl) (known_old 11 _ (of_decide_eq_true (by rfl)) (by rfl)) Fs.out
    · exact core_stepAs _ (by rfl)
    · exact fun _ => core_call _ 28 _ _ [.tmp 49] _ _ _ _ _ _ (by rfl) Try.func28 (by kernel_rfl) (by rfl) (by rfl) (.cons (known_core 1 49 _ _ (of_decide_eq_true (by rfl)) (by rfl) (by rfl) (by rfl)) .nil) (HX4.out)
    · exact fun _ => core_load _ _ _ _ _ gm _ _ _ _ (by rfl) (by rfl) (known_old 5 _ (of_decide_eq_true (by rfl)) (by rfl)) Fm.out
    · exact fun _ => core_call _ 13 _ _ [.tmp 48, .tmp 50, .tmp 51] _ _ _ _ _ _ (by rfl) Try.func13 (by kernel_rfl) (by rfl) (by rfl) (.cons (known_core 0 48 _ _ (of_decide_eq_true (by rfl)) (by rfl) (by rfl) (by rfl)) (.cons (known_core 2 50 _ _ (of_decide_eq_true (by rfl)) (by rfl) (by rfl) (by rfl)) (.cons (known_core 3 51 _ _ (of_decide_eq_true (by rfl)) (by rfl) (by rfl) (by rfl)) .nil))) (HX5.out)
    · exact core_stepAs _ (by rfl)
    · exact core_stepAs _ (by rfl)
    · exact core_stepAs _ (by rfl)
    · exact fun _ => core_alloc _ _ _ _ _ (by rfl) (by rfl) (Nat.le_refl _)
  intro vs y9 hc
  obtain ⟨vv0, vv1, vv2, vv3, vv4, vv5, vv6, vv7, vv8, rfl⟩ := len9 vs hc.lv
  have qq0 : vv0 = .agg #[.int .u64 (wd S 0 : Nat), .int .u64 (wd S 1 : Nat), .int .u64 (wd S 2 : Nat), .int .u64 (wd S 3 : Nat)] := by obtain ⟨xx, hx, hy⟩ := hc.ok 0 _ rfl rfl; exact (Option.some.inj (show some vv0 = some xx from hx)).trans hy
  have qq1 : vv1 = .int .u64 (mo : Nat) := by obtain ⟨xx, hx, hy⟩ := hc.ok 1 _ rfl rfl; exact (Option.some.inj (show some vv1 = some xx from hx)).trans hy
  have qq2 : vv2 = .agg #[.int .u64 (wd mo 0 : Nat), .int .u64 (wd mo 1 : Nat), .int .u64 (wd mo 2 : Nat), .int .u64 (wd mo 3 : Nat)] := by obtain ⟨xx, hx, hy⟩ := hc.ok 2 _ rfl rfl; exact (Option.some.inj (show some vv2 = some xx from hx)).trans hy
  have qq3 : vv3 = .agg #[.int .u64 (wd M 0 : Nat), .int .u64 (wd M 1 : Nat), .int .u64 (wd M 2 : Nat), .int .u64 (wd M 3 : Nat)] := by obtain ⟨xx, hx, hy⟩ := hc.ok 3 _ rfl rfl; exact (Option.some.inj (show some vv3 = some xx from hx)).trans hy
  have qq4 : vv4 = .tuple #[.agg #[.int .u64 (wd q 0 : Nat), .int .u64 (wd q 1 : Nat), .int .u64 (wd q 2 : Nat), .int .u64 (wd q 3 : Nat)], .int .i64 0] := by obtain ⟨xx, hx, hy⟩ := hc.ok 4 _ rfl rfl; exact (Option.some.inj (show some vv4 = some xx from hx)).trans hy
  have qq5 : vv5 = .tuple #[.agg #[.int .u64 (wd q 0 : Nat), .int .u64 (wd q 1 : Nat), .int .u64 (wd q 2 : Nat), .int .u64 (wd q 3 : Nat)], .int .i64 0] := by obtain ⟨xx, hx, hy⟩ := hc.ok 5 _ rfl rfl; exact (Option.some.inj (show some vv5 = some xx from hx)).trans hy
  have qq6 : vv6 = .agg #[.int .u64 (wd q 0 : Nat), .int .u64 (wd q 1 : Nat), .int .u64 (wd q 2 : Nat), .int .u64 (wd q 3 : Nat)] := by obtain ⟨xx, hx, hy⟩ := hc.ok 6 _ rfl rfl; exact (Option.some.inj (show some vv6 = some xx from hx)).trans hy
  have qq7 : vv7 = .int .i64 0 := by obtain ⟨xx, hx, hy⟩ := hc.ok 7 _ rfl rfl; exact (Option.some.inj (show some vv7 = some xx from hx)).trans hy
  obtain ⟨xx, hx, gq, hv, Eq, Aq⟩ := hc.ok 8 _ rfl rfl
  have qq8 : vv8 = .pointer (some ⟨gq, 0, none⟩) := (Option.some.inj (show some vv8 = some xx from hx)).trans hv
  clear hx hv
  have BZ := hc.bel
  clear hc
  have Na := Fa.out.on BZ
  have Nb := Fb.out.on BZ
  have Nm := Fm.out.on BZ
  have Np := Fp.out.on BZ
  have Ns := Fs.out.on BZ
  have Daq : ga ≠ gq := by have := Fa.out.lt; omega
  have Dbq : gb ≠ gq := by have := Fb.out.lt; omega
  have Dmq : gm ≠ gq := by have := Fm.out.lt; omega
  have Dpq : gp ≠ gq := by have := Fp.out.lt; omega
  have Dsq : gs ≠ gq := by have := Fs.out.lt; omega
  have HSZ9 := BW.out.size
  have NB := bel_tr BW.out BZ
  clear BW BZ Fa Fb Fm Fp Fs
  subst qq0 qq1 qq2 qq3 qq4 qq5 qq6 qq7 qq8
  simp only [List.map_cons, List.map_nil, over, Act.put, List.setIfInBounds_toArray, List.set_cons_zero, List.set_cons_succ]
  have OLD := Aq
  replace Na := put4_far Na Daq (.int .u64 (wd q 0 : Nat)) (.int .u64 (wd q 1 : Nat)) (.int .u64 (wd q 2 : Nat)) (.int .u64 (wd q 3 : Nat))
  replace Nb := put4_far Nb Dbq (.int .u64 (wd q 0 : Nat)) (.int .u64 (wd q 1 : Nat)) (.int .u64 (wd q 2 : Nat)) (.int .u64 (wd q 3 : Nat))
  replace Nm := put4_far Nm Dmq (.int .u64 (wd q 0 : Nat)) (.int .u64 (wd q 1 : Nat)) (.int .u64 (wd q 2 : Nat)) (.int .u64 (wd q 3 : Nat))
  replace Np := put4_far Np Dpq (.int .u64 (wd q 0 : Nat)) (.int .u64 (wd q 1 : Nat)) (.int .u64 (wd q 2 : Nat)) (.int .u64 (wd q 3 : Nat))
  replace Ns := put4_far Ns Dsq (.int .u64 (wd q 0 : Nat)) (.int .u64 (wd q 1 : Nat)) (.int .u64 (wd q 2 : Nat)) (.int .u64 (wd q 3 : Nat))
  replace Aq := put4_at Aq (.int .u64 (wd q 0 : Nat)) (.int .u64 (wd q 1 : Nat)) (.int .u64 (wd q 2 : Nat)) (.int .u64 (wd q 3 : Nat))
  replace NB := put4_below NB (Nat.le_trans HSZ9 Eq) (.int .u64 (wd q 0 : Nat)) (.int .u64 (wd q 1 : Nat)) (.int .u64 (wd q 2 : Nat)) (.int .u64 (wd q 3 : Nat))
  refine store_one (i := 9) _ _ _ _ _ gq _ _ _ _ _ _ _ _ (by kernel_rfl) (by rfl) (by rfl) (by rfl) OLD (trivial) ?_
  clear OLD
  generalize (put4 y9 gq (.int .u64 (wd q 0 : Nat)) (.int .u64 (wd q 1 : Nat)) (.int .u64 (wd q 2 : Nat)) (.int .u64 (wd q 3 : Nat))) = y9_9 at *
  refine assign_one (i := 10) _ 14 _ _ _ _ (by kernel_rfl) (by rfl) (by rfl) (trivial) ?_
  try simp only [Act.put, List.setIfInBounds_toArray, List.set_cons_zero, List.set_cons_succ]
  refine wpAnyH_done (by kernel_rfl) ?_ _
  refine NoPanic.normal ?_
  have Fa := Lib.hid Na
  have Fb := Lib.hid Nb
  have Fm := Lib.hid Nm
  have Fp := Lib.hid Np
  have Fs := Lib.hid Ns
  have Fq := Lib.hid Aq
  have BW := Lib.hid NB
  clear NB Na Nb Nm Np Ns Aq
  clear Eq
  clear HSZ9
  go_wp2_with fail
  clear Fs
  try simp only [List.append_eq, List.cons_append, List.nil_append]
  refine wp_region_noPanic ?_
  refine wp_region_held_drew (S := fun w' => True) (by kernel_rfl) (trivial) (fun _ => ?_)
  refine wpAnyH_cores (fuel := 2) (⟨0, 56, [], Kind.val (.agg #[.int .u64 (wd A 0 : Nat), .int .u64 (wd A 1 : Nat), .int .u64 (wd A 2 : Nat), .int .u64 (wd A 3 : Nat)]), false⟩ :: ⟨1, 57, [], Kind.val (.agg #[.int .u64 (wd M 0 : Nat), .int .u64 (wd M 1 : Nat), .int .u64 (wd M 2 : Nat), .int .u64 (wd M 3 : Nat)]), false⟩ :: ⟨2, 58, [0, 1], Kind.val (.agg #[.int .u64 (wd a 0 : Nat), .int .u64 (wd a 1 : Nat), .int .u64 (wd a 2 : Nat), .int .u64 (wd a 3 : Nat)]), false⟩ :: ⟨3, 59, [], Kind.val (.agg #[.int .u64 (wd B 0 : Nat), .int .u64 (wd B 1 : Nat), .int .u64 (wd B 2 : Nat), .int .u64 (wd B 3 : Nat)]), false⟩ :: ⟨4, 60, [], Kind.val (.agg #[.int .u64 (wd M 0 : Nat), .int .u64 (wd M 1 : Nat), .int .u64 (wd M 2 : Nat), .int .u64 (wd M 3 : Nat)]), false⟩ :: ⟨5, 61, [3, 4, 2], Kind.val (.agg #[.int .u64 (wd b 0 : Nat), .int .u64 (wd b 1 : Nat), .int .u64 (wd b 2 : Nat), .int .u64 (wd b 3 : Nat)]), false⟩ :: ⟨6, 62, [], Kind.val (.agg #[.int .u64 (wd M 0 : Nat), .int .u64 (wd M 1 : Nat), .int .u64 (wd M 2 : Nat), .int .u64 (wd M 3 : Nat)]), false⟩ :: ⟨7, 63, [2, 5, 6], Kind.val (.tuple #[.agg #[.int .u64 (wd p 0 : Nat), .int .u64 (wd p 1 : Nat), .int .u64 (wd p 2 : Nat), .int .u64 (wd p 3 : Nat)], .int .i64 0]), false⟩ :: ⟨8, 55, [7], Kind.val (.tuple #[.agg #[.int .u64 (wd p 0 : Nat), .int .u64 (wd p 1 : Nat), .int .u64 (wd p 2 : Nat), .int .u64 (wd p 3 : Nat)], .int .i64 0]), true⟩ :: ⟨9, 64, [8], Kind.val (.agg #[.int .u64 (wd p 0 : Nat), .int .u64 (wd p 1 : Nat), .int .u64 (wd p 2 : Nat), .int .u64 (wd p 3 : Nat)]), true⟩ :: ⟨10, 65, [8], Kind.val (.int .i64 0), true⟩ :: ⟨11, 15, [], Kind.cell y9_9.heap.size 24 #[.int .u64 0, .int .u64 0, .int .u64 0, .int .u64 0], false⟩ :: []) _ _ y9_9 _ ?_ ?_ ?_ ?_ ?_ ?_ ?_ ?_ ?_ ?_ ?_
  · rfl
  · kernel_rfl
  · exact of_decide_eq_true rfl
  · exact all_cons ⟨_, rfl, rfl⟩ (all_cons ⟨_, rfl, rfl⟩ (all_cons ⟨_, rfl, rfl⟩ (all_cons ⟨_, rfl, rfl⟩ (all_cons ⟨_, rfl, rfl⟩ (all_cons ⟨_, rfl, rfl⟩ (all_cons ⟨_, rfl, rfl⟩ (all_cons ⟨_, rfl, rfl⟩ (all_cons ⟨_, rfl, rfl⟩ (all_cons ⟨_, rfl, rfl⟩ (all_cons ⟨_, rfl, rfl⟩ (all_cons ⟨_, rfl, rfl⟩ (all_nil))))))))))))
  · exact fun _ hb => trivial
  · exact (Below.refl _ _).drew
  · kernel_rfl
  · exact fun _ _ _ _ _ h => h
  · refine all_cons ?_ (all_cons ?_ (all_cons ?_ (all_cons ?_ (all_cons ?_ (all_cons ?_ (all_cons ?_ (all_cons ?_ (all_cons ?_ (all_cons ?_ (all_cons ?_ (all_cons ?_ (all_nil))))))))))))
    · exact core_pureAs _ (by rfl)
    · exact core_pureAs _ (by rfl)
    · exact core_pureAs _ (by rfl)
    · exact core_pureAs _ (by rfl)
    · exact core_pureAs _ (by rfl)
    · exact core_pureAs _ (by rfl)
    · exact core_pureAs _ (by rfl)
    · exact core_pureAs _ (by rfl)
    · exact core_move _ _ _ _ _ _ (by rfl) (by rfl) (known_core 7 63 _ _ (of_decide_eq_true (by rfl)) (by rfl) (by rfl) (by rfl))
    · exact core_extract _ _ 0 _ _ _ _ _ (by rfl) (by rfl) (known_core 8 55 _ _ (of_decide_eq_true (by rfl)) (by rfl) (by rfl) (by rfl)) (by rfl)
    · exact core_extract _ _ 1 _ _ _ _ _ (by rfl) (by rfl) (known_core 8 55 _ _ (of_decide_eq_true (by rfl)) (by rfl) (by rfl) (by rfl)) (by rfl)
    · exact core_pureAs _ (by rfl)
  · refine all_cons ?_ (all_cons ?_ (all_cons ?_ (all_cons ?_ (all_cons ?_ (all_cons ?_ (all_cons ?_ (all_cons ?_ (all_cons ?_ (all_cons ?_ (all_cons ?_ (all_cons ?_ (all_nil))))))))))))
    · exact fun _ => core_load _ _ _ _ _ ga _ _ _ _ (by rfl) (by rfl) (known_old 3 _ (of_decide_eq_true (by rfl)) (by rfl)) Fa.out
    · exact fun _ => core_load _ _ _ _ _ gm _ _ _ _ (by rfl) (by rfl) (known_old 5 _ (of_decide_eq_true (by rfl)) (by rfl)) Fm.out
    · exact fun _ => core_call _ 30 _ _ [.tmp 56, .tmp 57] _ _ _ _ _ _ (by rfl) Try.func30 (by kernel_rfl) (by rfl) (by rfl) (.cons (known_core 0 56 _ _ (of_decide_eq_true (by rfl)) (by rfl) (by rfl) (by rfl)) (.cons (known_core 1 57 _ _ (of_decide_eq_true (by rfl)) (by rfl) (by rfl) (by rfl)) .nil)) (HB1.out)
    · exact fun _ => core_load _ _ _ _ _ gb _ _ _ _ (by rfl) (by rfl) (known_old 4 _ (of_decide_eq_true (by rfl)) (by rfl)) Fb.out
    · exact fun _ => core_load _ _ _ _ _ gm _ _ _ _ (by rfl) (by rfl) (known_old 5 _ (of_decide_eq_true (by rfl)) (by rfl)) Fm.out
    · exact fun _ => core_call _ 30 _ _ [.tmp 59, .tmp 60] _ _ _ _ _ _ (by rfl) Try.func30 (by kernel_rfl) (by rfl) (by rfl) (.cons (known_core 3 59 _ _ (of_decide_eq_true (by rfl)) (by rfl) (by rfl) (by rfl)) (.cons (known_core 4 60 _ _ (of_decide_eq_true (by rfl)) (by rfl) (by rfl) (by rfl)) .nil)) (HB2.out)
    · exact fun _ => core_load _ _ _ _ _ gm _ _ _ _ (by rfl) (by rfl) (known_old 5 _ (of_decide_eq_true (by rfl)) (by rfl)) Fm.out
    · exact fun _ => core_call _ 19 _ _ [.tmp 58, .tmp 61, .tmp 62] _ _ _ _ _ _ (by rfl) Try.func19 (by kernel_rfl) (by rfl) (by rfl) (.cons (known_core 2 58 _ _ (of_decide_eq_true (by rfl)) (by rfl) (by rfl) (by rfl)) (.cons (known_core 5 61 _ _ (of_decide_eq_true (by rfl)) (by rfl) (by rfl) (by rfl)) (.cons (known_core 6 62 _ _ (of_decide_eq_true (by rfl)) (by rfl) (by rfl) (by rfl)) .nil))) (HY1.out)
    · exact core_stepAs _ (by rfl)
    · exact core_stepAs _ (by rfl)
    · exact core_stepAs _ (by rfl)
    · exact fun _ => core_alloc _ _ _ _ _ (by rfl) (by rfl) (Nat.le_refl _)
  intro vs y10 hc
  obtain ⟨vv0, vv1, vv2, vv3, vv4, vv5, vv6, vv7, vv8, vv9, vv10, vv11, rfl⟩ := len12 vs hc.lv
  have qq0 : vv0 = .agg #[.int .u64 (wd A 0 : Nat), .int .u64 (wd A 1 : Nat), .int .u64 (wd A 2 : Nat), .int .u64 (wd A 3 : Nat)] := by obtain ⟨xx, hx, hy⟩ := hc.ok 0 _ rfl rfl; exact (Option.some.inj (show some vv0 = some xx from hx)).trans hy
  have qq1 : vv1 = .agg #[.int .u64 (wd M 0 : Nat), .int .u64 (wd M 1 : Nat), .int .u64 (wd M 2 : Nat), .int .u64 (wd M 3 : Nat)] := by obtain ⟨xx, hx, hy⟩ := hc.ok 1 _ rfl rfl; exact (Option.some.inj (show some vv1 = some xx from hx)).trans hy
  have qq2 : vv2 = .agg #[.int .u64 (wd a 0 : Nat), .int .u64 (wd a 1 : Nat), .int .u64 (wd a 2 : Nat), .int .u64 (wd a 3 : Nat)] := by obtain ⟨xx, hx, hy⟩ := hc.ok 2 _ rfl rfl; exact (Option.some.inj (show some vv2 = some xx from hx)).trans hy
  have qq3 : vv3 = .agg #[.int .u64 (wd B 0 : Nat), .int .u64 (wd B 1 : Nat), .int .u64 (wd B 2 : Nat), .int .u64 (wd B 3 : Nat)] := by obtain ⟨xx, hx, hy⟩ := hc.ok 3 _ rfl rfl; exact (Option.some.inj (show some vv3 = some xx from hx)).trans hy
  have qq4 : vv4 = .agg #[.int .u64 (wd M 0 : Nat), .int .u64 (wd M 1 : Nat), .int .u64 (wd M 2 : Nat), .int .u64 (wd M 3 : Nat)] := by obtain ⟨xx, hx, hy⟩ := hc.ok 4 _ rfl rfl; exact (Option.some.inj (show some vv4 = some xx from hx)).trans hy
  have qq5 : vv5 = .agg #[.int .u64 (wd b 0 : Nat), .int .u64 (wd b 1 : Nat), .int .u64 (wd b 2 : Nat), .int .u64 (wd b 3 : Nat)] := by obtain ⟨xx, hx, hy⟩ := hc.ok 5 _ rfl rfl; exact (Option.some.inj (show some vv5 = some xx from hx)).trans hy
  have qq6 : vv6 = .agg #[.int .u64 (wd M 0 : Nat), .int .u64 (wd M 1 : Nat), .int .u64 (wd M 2 : Nat), .int .u64 (wd M 3 : Nat)] := by obtain ⟨xx, hx, hy⟩ := hc.ok 6 _ rfl rfl; exact (Option.some.inj (show some vv6 = some xx from hx)).trans hy
  have qq7 : vv7 = .tuple #[.agg #[.int .u64 (wd p 0 : Nat), .int .u64 (wd p 1 : Nat), .int .u64 (wd p 2 : Nat), .int .u64 (wd p 3 : Nat)], .int .i64 0] := by obtain ⟨xx, hx, hy⟩ := hc.ok 7 _ rfl rfl; exact (Option.some.inj (show some vv7 = some xx from hx)).trans hy
  have qq8 : vv8 = .tuple #[.agg #[.int .u64 (wd p 0 : Nat), .int .u64 (wd p 1 : Nat), .int .u64 (wd p 2 : Nat), .int .u64 (wd p 3 : Nat)], .int .i64 0] := by obtain ⟨xx, hx, hy⟩ := hc.ok 8 _ rfl rfl; exact (Option.some.inj (show some vv8 = some xx from hx)).trans hy
  have qq9 : vv9 = .agg #[.int .u64 (wd p 0 : Nat), .int .u64 (wd p 1 : Nat), .int .u64 (wd p 2 : Nat), .int .u64 (wd p 3 : Nat)] := by obtain ⟨xx, hx, hy⟩ := hc.ok 9 _ rfl rfl; exact (Option.some.inj (show some vv9 = some xx from hx)).trans hy
  have qq10 : vv10 = .int .i64 0 := by obtain ⟨xx, hx, hy⟩ := hc.ok 10 _ rfl rfl; exact (Option.some.inj (show some vv10 = some xx from hx)).trans hy
  obtain ⟨xx, hx, gx, hv, Ex, Ax⟩ := hc.ok 11 _ rfl rfl
  have qq11 : vv11 = .pointer (some ⟨gx, 0, none⟩) := (Option.some.inj (show some vv11 = some xx from hx)).trans hv
  clear hx hv
  have BZ := hc.bel
  clear hc
  have Na := Fa.out.on BZ
  have Nb := Fb.out.on BZ
  have Nm := Fm.out.on BZ
  have Np := Fp.out.on BZ
  have Nq := Fq.out.on BZ
  have Dax : ga ≠ gx := by have := Fa.out.lt; omega
  have Dbx : gb ≠ gx := by have := Fb.out.lt; omega
  have Dmx : gm ≠ gx := by have := Fm.out.lt; omega
  have Dpx : gp ≠ gx := by have := Fp.out.lt; omega
  have Dqx : gq ≠ gx := by have := Fq.out.lt; omega
  have HSZ10 := BW.out.size
  have NB := bel_tr BW.out BZ
  clear BW BZ Fa Fb Fm Fp Fq
  subst qq0 qq1 qq2 qq3 qq4 qq5 qq6 qq7 qq8 qq9 qq10 qq11
  simp only [List.map_cons, List.map_nil, over, Act.put, List.setIfInBounds_toArray, List.set_cons_zero, List.set_cons_succ]
  have OLD := Ax
  replace Na := put4_far Na Dax (.int .u64 (wd p 0 : Nat)) (.int .u64 (wd p 1 : Nat)) (.int .u64 (wd p 2 : Nat)) (.int .u64 (wd p 3 : Nat))
  replace Nb := put4_far Nb Dbx (.int .u64 (wd p 0 : Nat)) (.int .u64 (wd p 1 : Nat)) (.int .u64 (wd p 2 : Nat)) (.int .u64 (wd p 3 : Nat))
  replace Nm := put4_far Nm Dmx (.int .u64 (wd p 0 : Nat)) (.int .u64 (wd p 1 : Nat)) (.int .u64 (wd p 2 : Nat)) (.int .u64 (wd p 3 : Nat))
  replace Np := put4_far Np Dpx (.int .u64 (wd p 0 : Nat)) (.int .u64 (wd p 1 : Nat)) (.int .u64 (wd p 2 : Nat)) (.int .u64 (wd p 3 : Nat))
  replace Nq := put4_far Nq Dqx (.int .u64 (wd p 0 : Nat)) (.int .u64 (wd p 1 : Nat)) (.int .u64 (wd p 2 : Nat)) (.int .u64 (wd p 3 : Nat))
  replace Ax := put4_at Ax (.int .u64 (wd p 0 : Nat)) (.int .u64 (wd p 1 : Nat)) (.int .u64 (wd p 2 : Nat)) (.int .u64 (wd p 3 : Nat))
  replace NB := put4_below NB (Nat.le_trans HSZ10 Ex) (.int .u64 (wd p 0 : Nat)) (.int .u64 (wd p 1 : Nat)) (.int .u64 (wd p 2 : Nat)) (.int .u64 (wd p 3 : Nat))
  refine store_one (i := 12) _ _ _ _ _ gx _ _ _ _ _ _ _ _ (by kernel_rfl) (by rfl) (by rfl) (by rfl) OLD (trivial) ?_
  clear OLD
  generalize (put4 y10 gx (.int .u64 (wd p 0 : Nat)) (.int .u64 (wd p 1 : Nat)) (.int .u64 (wd p 2 : Nat)) (.int .u64 (wd p 3 : Nat))) = y10_12 at *
  refine assign_one (i := 13) _ 16 _ _ _ _ (by kernel_rfl) (by rfl) (by rfl) (trivial) ?_
  try simp only [Act.put, List.setIfInBounds_toArray, List.set_cons_zero, List.set_cons_succ]
  refine wpAnyH_done (by kernel_rfl) ?_ _
  refine NoPanic.normal ?_
  have Fa := Lib.hid Na
  have Fb := Lib.hid Nb
  have Fm := Lib.hid Nm
  have Fp := Lib.hid Np
  have Fq := Lib.hid Nq
  have Fx := Lib.hid Ax
  have BW := Lib.hid NB
  clear NB Na Nb Nm Np Nq Ax
  clear Ex
  clear HSZ10
  go_wp2_with fail
  try simp only [List.append_eq, List.cons_append, List.nil_append]
  refine wp_region_noPanic ?_
  refine wp_region_held_drew (S := fun w' => True) (by kernel_rfl) (trivial) (fun _ => ?_)
  refine wpAnyH_cores (fuel := 2) (⟨0, 67, [], Kind.val (.agg #[.int .u64 (wd A 0 : Nat), .int .u64 (wd A 1 : Nat), .int .u64 (wd A 2 : Nat), .int .u64 (wd A 3 : Nat)]), false⟩ :: ⟨1, 68, [], Kind.val (.agg #[.int .u64 (wd M 0 : Nat), .int .u64 (wd M 1 : Nat), .int .u64 (wd M 2 : Nat), .int .u64 (wd M 3 : Nat)]), false⟩ :: ⟨2, 69, [0, 1], Kind.val (.agg #[.int .u64 (wd a 0 : Nat), .int .u64 (wd a 1 : Nat), .int .u64 (wd a 2 : Nat), .int .u64 (wd a 3 : Nat)]), false⟩ :: ⟨3, 70, [], Kind.val (.agg #[.int .u64 (wd B 0 : Nat), .int .u64 (wd B 1 : Nat), .int .u64 (wd B 2 : Nat), .int .u64 (wd B 3 : Nat)]), false⟩ :: ⟨4, 71, [], Kind.val (.agg #[.int .u64 (wd M 0 : Nat), .int .u64 (wd M 1 : Nat), .int .u64 (wd M 2 : Nat), .int .u64 (wd M 3 : Nat)]), false⟩ :: ⟨5, 72, [3, 4, 2], Kind.val (.agg #[.int .u64 (wd b 0 : Nat), .int .u64 (wd b 1 : Nat), .int .u64 (wd b 2 : Nat), .int .u64 (wd b 3 : Nat)]), false⟩ :: ⟨6, 73, [], Kind.val (.agg #[.int .u64 (wd M 0 : Nat), .int .u64 (wd M 1 : Nat), .int .u64 (wd M 2 : Nat), .int .u64 (wd M 3 : Nat)]), false⟩ :: ⟨7, 74, [2, 5, 6], Kind.val (.tuple #[.agg #[.int .u64 (wd q 0 : Nat), .int .u64 (wd q 1 : Nat), .int .u64 (wd q 2 : Nat), .int .u64 (wd q 3 : Nat)], .int .i64 0]), false⟩ :: ⟨8, 66, [7], Kind.val (.tuple #[.agg #[.int .u64 (wd q 0 : Nat), .int .u64 (wd q 1 : Nat), .int .u64 (wd q 2 : Nat), .int .u64 (wd q 3 : Nat)], .int .i64 0]), true⟩ :: ⟨9, 75, [8], Kind.val (.agg #[.int .u64 (wd q 0 : Nat), .int .u64 (wd q 1 : Nat), .int .u64 (wd q 2 : Nat), .int .u64 (wd q 3 : Nat)]), true⟩ :: ⟨10, 76, [8], Kind.val (.int .i64 0), true⟩ :: ⟨11, 17, [], Kind.cell y10_12.heap.size 24 #[.int .u64 0, .int .u64 0, .int .u64 0, .int .u64 0], false⟩ :: []) _ _ y10_12 _ ?_ ?_ ?_ ?_ ?_ ?_ ?_ ?_ ?_ ?_ ?_
  · rfl
  · kernel_rfl
  · exact of_decide_eq_true rfl
  · exact all_cons ⟨_, rfl, rfl⟩ (all_cons ⟨_, rfl, rfl⟩ (all_cons ⟨_, rfl, rfl⟩ (all_cons ⟨_, rfl, rfl⟩ (all_cons ⟨_, rfl, rfl⟩ (all_cons ⟨_, rfl, rfl⟩ (all_cons ⟨_, rfl, rfl⟩ (all_cons ⟨_, rfl, rfl⟩ (all_cons ⟨_, rfl, rfl⟩ (all_cons ⟨_, rfl, rfl⟩ (all_cons ⟨_, rfl, rfl⟩ (all_cons ⟨_, rfl, rfl⟩ (all_nil))))))))))))
  · exact fun _ hb => trivial
  · exact (Below.refl _ _).drew
  · kernel_rfl
  · exact fun _ _ _ _ _ h => h
  · refine all_cons ?_ (all_cons ?_ (all_cons ?_ (all_cons ?_ (all_cons ?_ (all_cons ?_ (all_cons ?_ (all_cons ?_ (all_cons ?_ (all_cons ?_ (all_cons ?_ (all_cons ?_ (all_nil))))))))))))
    · exact core_pureAs _ (by rfl)
    · exact core_pureAs _ (by rfl)
    · exact core_pureAs _ (by rfl)
    · exact core_pureAs _ (by rfl)
    · exact core_pureAs _ (by rfl)
    · exact core_pureAs _ (by rfl)
    · exact core_pureAs _ (by rfl)
    · exact core_pureAs _ (by rfl)
    · exact core_move _ _ _ _ _ _ (by rfl) (by rfl) (known_core 7 74 _ _ (of_decide_eq_true (by rfl)) (by rfl) (by rfl) (by rfl))
    · exact core_extract _ _ 0 _ _ _ _ _ (by rfl) (by rfl) (known_core 8 66 _ _ (of_decide_eq_true (by rfl)) (by rfl) (by rfl) (by rfl)) (by rfl)
    · exact core_extract _ _ 1 _ _ _ _ _ (by rfl) (by rfl) (known_core 8 66 _ _ (of_decide_eq_true (by rfl)) (by rfl) (by rfl) (by rfl)) (by rfl)
    · exact core_pureAs _ (by rfl)
  · refine all_cons ?_ (all_cons ?_ (all_cons ?_ (all_cons ?_ (all_cons ?_ (all_cons ?_ (all_cons ?_ (all_cons ?_ (all_cons ?_ (all_cons ?_ (all_cons ?_ (all_cons ?_ (all_nil))))))))))))
    · exact fun _ => core_load _ _ _ _ _ ga _ _ _ _ (by rfl) (by rfl) (known_old 3 _ (of_decide_eq_true (by rfl)) (by rfl)) Fa.out
    · exact fun _ => core_load _ _ _ _ _ gm _ _ _ _ (by rfl) (by rfl) (known_old 5 _ (of_decide_eq_true (by rfl)) (by rfl)) Fm.out
    · exact fun _ => core_call _ 30 _ _ [.tmp 67, .tmp 68] _ _ _ _ _ _ (by rfl) Try.func30 (by kernel_rfl) (by rfl) (by rfl) (.cons (known_core 0 67 _ _ (of_decide_eq_true (by rfl)) (by rfl) (by rfl) (by rfl)) (.cons (known_core 1 68 _ _ (of_decide_eq_true (by rfl)) (by rfl) (by rfl) (by rfl)) .nil)) (HB1.out)
    · exact fun _ => core_load _ _ _ _ _ gb _ _ _ _ (by rfl) (by rfl) (known_old 4 _ (of_decide_eq_true (by rfl)) (by rfl)) Fb.out
    · exact fun _ => core_load _ _ _ _ _ gm _ _ _ _ (by rfl) (by rfl) (known_old 5 _ (of_decide_eq_true (by rfl)) (by rfl)) Fm.out
    · exact fun _ => core_call _ 30 _ _ [.tmp 70, .tmp 71] _ _ _ _ _ _ (by rfl) Try.func30 (by kernel_rfl) (by rfl) (by rfl) (.cons (known_core 3 70 _ _ (of_decide_eq_true (by rfl)) (by rfl) (by rfl) (by rfl)) (.cons (known_core 4 71 _ _ (of_decide_eq_true (by rfl)) (by rfl) (by rfl) (by rfl)) .nil)) (HB2.out)
    · exact fun _ => core_load _ _ _ _ _ gm _ _ _ _ (by rfl) (by rfl) (known_old 5 _ (of_decide_eq_true (by rfl)) (by rfl)) Fm.out
    · exact fun _ => core_call _ 17 _ _ [.tmp 69, .tmp 72, .tmp 73] _ _ _ _ _ _ (by rfl) Try.func17 (by kernel_rfl) (by rfl) (by rfl) (.cons (known_core 2 69 _ _ (of_decide_eq_true (by rfl)) (by rfl) (by rfl) (by rfl)) (.cons (known_core 5 72 _ _ (of_decide_eq_true (by rfl)) (by rfl) (by rfl) (by rfl)) (.cons (known_core 6 73 _ _ (of_decide_eq_true (by rfl)) (by rfl) (by rfl) (by rfl)) .nil))) (HY2.out)
    · exact core_stepAs _ (by rfl)
    · exact core_stepAs _ (by rfl)
    · exact core_stepAs _ (by rfl)
    · exact fun _ => core_alloc _ _ _ _ _ (by rfl) (by rfl) (Nat.le_refl _)
  intro vs y11 hc
  obtain ⟨vv0, vv1, vv2, vv3, vv4, vv5, vv6, vv7, vv8, vv9, vv10, vv11, rfl⟩ := len12 vs hc.lv
  have qq0 : vv0 = .agg #[.int .u64 (wd A 0 : Nat), .int .u64 (wd A 1 : Nat), .int .u64 (wd A 2 : Nat), .int .u64 (wd A 3 : Nat)] := by obtain ⟨xx, hx, hy⟩ := hc.ok 0 _ rfl rfl; exact (Option.some.inj (show some vv0 = some xx from hx)).trans hy
  have qq1 : vv1 = .agg #[.int .u64 (wd M 0 : Nat), .int .u64 (wd M 1 : Nat), .int .u64 (wd M 2 : Nat), .int .u64 (wd M 3 : Nat)] := by obtain ⟨xx, hx, hy⟩ := hc.ok 1 _ rfl rfl; exact (Option.some.inj (show some vv1 = some xx from hx)).trans hy
  have qq2 : vv2 = .agg #[.int .u64 (wd a 0 : Nat), .int .u64 (wd a 1 : Nat), .int .u64 (wd a 2 : Nat), .int .u64 (wd a 3 : Nat)] := by obtain ⟨xx, hx, hy⟩ := hc.ok 2 _ rfl rfl; exact (Option.some.inj (show some vv2 = some xx from hx)).trans hy
  have qq3 : vv3 = .agg #[.int .u64 (wd B 0 : Nat), .int .u64 (wd B 1 : Nat), .int .u64 (wd B 2 : Nat), .int .u64 (wd B 3 : Nat)] := by obtain ⟨xx, hx, hy⟩ := hc.ok 3 _ rfl rfl; exact (Option.some.inj (show some vv3 = some xx from hx)).trans hy
  have qq4 : vv4 = .agg #[.int .u64 (wd M 0 : Nat), .int .u64 (wd M 1 : Nat), .int .u64 (wd M 2 : Nat), .int .u64 (wd M 3 : Nat)] := by obtain ⟨xx, hx, hy⟩ := hc.ok 4 _ rfl rfl; exact (Option.some.inj (show some vv4 = some xx from hx)).trans hy
  have qq5 : vv5 = .agg #[.int .u64 (wd b 0 : Nat), .int .u64 (wd b 1 : Nat), .int .u64 (wd b 2 : Nat), .int .u64 (wd b 3 : Nat)] := by obtain ⟨xx, hx, hy⟩ := hc.ok 5 _ rfl rfl; exact (Option.some.inj (show some vv5 = some xx from hx)).trans hy
  have qq6 : vv6 = .agg #[.int .u64 (wd M 0 : Nat), .int .u64 (wd M 1 : Nat), .int .u64 (wd M 2 : Nat), .int .u64 (wd M 3 : Nat)] := by obtain ⟨xx, hx, hy⟩ := hc.ok 6 _ rfl rfl; exact (Option.some.inj (show some vv6 = some xx from hx)).trans hy
  have qq7 : vv7 = .tuple #[.agg #[.int .u64 (wd q 0 : Nat), .int .u64 (wd q 1 : Nat), .int .u64 (wd q 2 : Nat), .int .u64 (wd q 3 : Nat)], .int .i64 0] := by obtain ⟨xx, hx, hy⟩ := hc.ok 7 _ rfl rfl; exact (Option.some.inj (show some vv7 = some xx from hx)).trans hy
  have qq8 : vv8 = .tuple #[.agg #[.int .u64 (wd q 0 : Nat), .int .u64 (wd q 1 : Nat), .int .u64 (wd q 2 : Nat), .int .u64 (wd q 3 : Nat)], .int .i64 0] := by obtain ⟨xx, hx, hy⟩ := hc.ok 8 _ rfl rfl; exact (Option.some.inj (show some vv8 = some xx from hx)).trans hy
  have qq9 : vv9 = .agg #[.int .u64 (wd q 0 : Nat), .int .u64 (wd q 1 : Nat), .int .u64 (wd q 2 : Nat), .int .u64 (wd q 3 : Nat)] := by obtain ⟨xx, hx, hy⟩ := hc.ok 9 _ rfl rfl; exact (Option.some.inj (show some vv9 = some xx from hx)).trans hy
  have qq10 : vv10 = .int .i64 0 := by obtain ⟨xx, hx, hy⟩ := hc.ok 10 _ rfl rfl; exact (Option.some.inj (show some vv10 = some xx from hx)).trans hy
  obtain ⟨xx, hx, gy, hv, Ey, Ay⟩ := hc.ok 11 _ rfl rfl
  have qq11 : vv11 = .pointer (some ⟨gy, 0, none⟩) := (Option.some.inj (show some vv11 = some xx from hx)).trans hv
  clear hx hv
  have BZ := hc.bel
  clear hc
  have Na := Fa.out.on BZ
  have Nb := Fb.out.on BZ
  have Nm := Fm.out.on BZ
  have Np := Fp.out.on BZ
  have Nq := Fq.out.on BZ
  have Nx := Fx.out.on BZ
  have Day : ga ≠ gy := by have := Fa.out.lt; omega
  have Dby : gb ≠ gy := by have := Fb.out.lt; omega
  have Dmy : gm ≠ gy := by have := Fm.out.lt; omega
  have Dpy : gp ≠ gy := by have := Fp.out.lt; omega
  have Dqy : gq ≠ gy := by have := Fq.out.lt; omega
  have Dxy : gx ≠ gy := by have := Fx.out.lt; omega
  have HSZ11 := BW.out.size
  have NB := bel_tr BW.out BZ
  clear BW BZ Fa Fb Fm Fp Fq Fx
  subst qq0 qq1 qq2 qq3 qq4 qq5 qq6 qq7 qq8 qq9 qq10 qq11
  simp only [List.map_cons, List.map_nil, over, Act.put, List.setIfInBounds_toArray, List.set_cons_zero, List.set_cons_succ]
  have OLD := Ay
  replace Na := put4_far Na Day (.int .u64 (wd q 0 : Nat)) (.int .u64 (wd q 1 : Nat)) (.int .u64 (wd q 2 : Nat)) (.int .u64 (wd q 3 : Nat))
  replace Nb := put4_far Nb Dby (.int .u64 (wd q 0 : Nat)) (.int .u64 (wd q 1 : Nat)) (.int .u64 (wd q 2 : Nat)) (.int .u64 (wd q 3 : Nat))
  replace Nm := put4_far Nm Dmy (.int .u64 (wd q 0 : Nat)) (.int .u64 (wd q 1 : Nat)) (.int .u64 (wd q 2 : Nat)) (.int .u64 (wd q 3 : Nat))
  replace Np := put4_far Np Dpy (.int .u64 (wd q 0 : Nat)) (.int .u64 (wd q 1 : Nat)) (.int .u64 (wd q 2 : Nat)) (.int .u64 (wd q 3 : Nat))
  replace Nq := put4_far Nq Dqy (.int .u64 (wd q 0 : Nat)) (.int .u64 (wd q 1 : Nat)) (.int .u64 (wd q 2 : Nat)) (.int .u64 (wd q 3 : Nat))
  replace Nx := put4_far Nx Dxy (.int .u64 (wd q 0 : Nat)) (.int .u64 (wd q 1 : Nat)) (.int .u64 (wd q 2 : Nat)) (.int .u64 (wd q 3 : Nat))
  replace Ay := put4_at Ay (.int .u64 (wd q 0 : Nat)) (.int .u64 (wd q 1 : Nat)) (.int .u64 (wd q 2 : Nat)) (.int .u64 (wd q 3 : Nat))
  replace NB := put4_below NB (Nat.le_trans HSZ11 Ey) (.int .u64 (wd q 0 : Nat)) (.int .u64 (wd q 1 : Nat)) (.int .u64 (wd q 2 : Nat)) (.int .u64 (wd q 3 : Nat))
  refine store_one (i := 12) _ _ _ _ _ gy _ _ _ _ _ _ _ _ (by kernel_rfl) (by rfl) (by rfl) (by rfl) OLD (trivial) ?_
  clear OLD
  generalize (put4 y11 gy (.int .u64 (wd q 0 : Nat)) (.int .u64 (wd q 1 : Nat)) (.int .u64 (wd q 2 : Nat)) (.int .u64 (wd q 3 : Nat))) = y11_12 at *
  refine assign_one (i := 13) _ 18 _ _ _ _ (by kernel_rfl) (by rfl) (by rfl) (trivial) ?_
  try simp only [Act.put, List.setIfInBounds_toArray, List.set_cons_zero, List.set_cons_succ]
  refine wpAnyH_done (by kernel_rfl) ?_ _
  refine NoPanic.normal ?_
  have Fa := Lib.hid Na
  have Fb := Lib.hid Nb
  have Fm := Lib.hid Nm
  have Fp := Lib.hid Np
  have Fq := Lib.hid Nq
  have Fx := Lib.hid Nx
  have Fy := Lib.hid Ay
  have BW := Lib.hid NB
  clear NB Na Nb Nm Np Nq Nx Ay
  clear Ey
  clear HSZ11
  go_wp2_with fail
  try simp only [List.append_eq, List.cons_append, List.nil_append]
  refine wp_region_noPanic ?_
  refine wp_region_held_drew (S := fun w' => True) (by kernel_rfl) (trivial) (fun _ => ?_)
  refine wpAnyH_cores (fuel := 2) (⟨0, 78, [], Kind.val (.agg #[.int .u64 (wd A 0 : Nat), .int .u64 (wd A 1 : Nat), .int .u64 (wd A 2 : Nat), .int .u64 (wd A 3 : Nat)]), false⟩ :: ⟨1, 79, [], Kind.val (.agg #[.int .u64 (wd M 0 : Nat), .int .u64 (wd M 1 : Nat), .int .u64 (wd M 2 : Nat), .int .u64 (wd M 3 : Nat)]), false⟩ :: ⟨2, 80, [0, 1], Kind.val (.agg #[.int .u64 (wd a 0 : Nat), .int .u64 (wd a 1 : Nat), .int .u64 (wd a 2 : Nat), .int .u64 (wd a 3 : Nat)]), false⟩ :: ⟨3, 81, [], Kind.val (.agg #[.int .u64 (wd B 0 : Nat), .int .u64 (wd B 1 : Nat), .int .u64 (wd B 2 : Nat), .int .u64 (wd B 3 : Nat)]), false⟩ :: ⟨4, 82, [], Kind.val (.agg #[.int .u64 (wd M 0 : Nat), .int .u64 (wd M 1 : Nat), .int .u64 (wd M 2 : Nat), .int .u64 (wd M 3 : Nat)]), false⟩ :: ⟨5, 83, [3, 4, 2], Kind.val (.agg #[.int .u64 (wd b 0 : Nat), .int .u64 (wd b 1 : Nat), .int .u64 (wd b 2 : Nat), .int .u64 (wd b 3 : Nat)]), false⟩ :: ⟨6, 84, [], Kind.val (.agg #[.int .u64 (wd M 0 : Nat), .int .u64 (wd M 1 : Nat), .int .u64 (wd M 2 : Nat), .int .u64 (wd M 3 : Nat)]), false⟩ :: ⟨7, 85, [2, 5, 6], Kind.val (.tuple #[.agg #[.int .u64 (wd z 0 : Nat), .int .u64 (wd z 1 : Nat), .int .u64 (wd z 2 : Nat), .int .u64 (wd z 3 : Nat)], .int .i64 0]), false⟩ :: ⟨8, 77, [7], Kind.val (.tuple #[.agg #[.int .u64 (wd z 0 : Nat), .int .u64 (wd z 1 : Nat), .int .u64 (wd z 2 : Nat), .int .u64 (wd z 3 : Nat)], .int .i64 0]), true⟩ :: ⟨9, 86, [8], Kind.val (.agg #[.int .u64 (wd z 0 : Nat), .int .u64 (wd z 1 : Nat), .int .u64 (wd z 2 : Nat), .int .u64 (wd z 3 : Nat)]), true⟩ :: ⟨10, 87, [8], Kind.val (.int .i64 0), true⟩ :: ⟨11, 19, [], Kind.cell y11_12.heap.size 24 #[.int .u64 0, .int .u64 0, .int .u64 0, .int .u64 0], false⟩ :: []) _ _ y11_12 _ ?_ ?_ ?_ ?_ ?_ ?_ ?_ ?_ ?_ ?_ ?_
  · rfl
  · kernel_rfl
  · exact of_decide_eq_true rfl
  · exact all_cons ⟨_, rfl, rfl⟩ (all_cons ⟨_, rfl, rfl⟩ (all_cons ⟨_, rfl, rfl⟩ (all_cons ⟨_, rfl, rfl⟩ (all_cons ⟨_, rfl, rfl⟩ (all_cons ⟨_, rfl, rfl⟩ (all_cons ⟨_, rfl, rfl⟩ (all_cons ⟨_, rfl, rfl⟩ (all_cons ⟨_, rfl, rfl⟩ (all_cons ⟨_, rfl, rfl⟩ (all_cons ⟨_, rfl, rfl⟩ (all_cons ⟨_, rfl, rfl⟩ (all_nil))))))))))))
  · exact fun _ hb => trivial
  · exact (Below.refl _ _).drew
  · kernel_rfl
  · exact fun _ _ _ _ _ h => h
  · refine all_cons ?_ (all_cons ?_ (all_cons ?_ (all_cons ?_ (all_cons ?_ (all_cons ?_ (all_cons ?_ (all_cons ?_ (all_cons ?_ (all_cons ?_ (all_cons ?_ (all_cons ?_ (all_nil))))))))))))
    · exact core_pureAs _ (by rfl)
    · exact core_pureAs _ (by rfl)
    · exact core_pureAs _ (by rfl)
    · exact core_pureAs _ (by rfl)
    · exact core_pureAs _ (by rfl)
    · exact core_pureAs _ (by rfl)
    · exact core_pureAs _ (by rfl)
    · exact core_pureAs _ (by rfl)
    · exact core_move _ _ _ _ _ _ (by rfl) (by rfl) (known_core 7 85 _ _ (of_decide_eq_true (by rfl)) (by rfl) (by rfl) (by rfl))
    · exact core_extract _ _ 0 _ _ _ _ _ (by rfl) (by rfl) (known_core 8 77 _ _ (of_decide_eq_true (by rfl)) (by rfl) (by rfl) (by rfl)) (by rfl)
    · exact core_extract _ _ 1 _ _ _ _ _ (by rfl) (by rfl) (known_core 8 77 _ _ (of_decide_eq_true (by rfl)) (by rfl) (by rfl) (by rfl)) (by rfl)
    · exact core_pureAs _ (by rfl)
  · refine all_cons ?_ (all_cons ?_ (all_cons ?_ (all_cons ?_ (all_cons ?_ (all_cons ?_ (all_cons ?_ (all_cons ?_ (all_cons ?_ (all_cons ?_ (all_cons ?_ (all_cons ?_ (all_nil))))))))))))
    · exact fun _ => core_load _ _ _ _ _ ga _ _ _ _ (by rfl) (by rfl) (known_old 3 _ (of_decide_eq_true (by rfl)) (by rfl)) Fa.out
    · exact fun _ => core_load _ _ _ _ _ gm _ _ _ _ (by rfl) (by rfl) (known_old 5 _ (of_decide_eq_true (by rfl)) (by rfl)) Fm.out
    · exact fun _ => core_call _ 30 _ _ [.tmp 78, .tmp 79] _ _ _ _ _ _ (by rfl) Try.func30 (by kernel_rfl) (by rfl) (by rfl) (.cons (known_core 0 78 _ _ (of_decide_eq_true (by rfl)) (by rfl) (by rfl) (by rfl)) (.cons (known_core 1 79 _ _ (of_decide_eq_true (by rfl)) (by rfl) (by rfl) (by rfl)) .nil)) (HB1.out)
    · exact fun _ => core_load _ _ _ _ _ gb _ _ _ _ (by rfl) (by rfl) (known_old 4 _ (of_decide_eq_true (by rfl)) (by rfl)) Fb.out
    · exact fun _ => core_load _ _ _ _ _ gm _ _ _ _ (by rfl) (by rfl) (known_old 5 _ (of_decide_eq_true (by rfl)) (by rfl)) Fm.out
    · exact fun _ => core_call _ 30 _ _ [.tmp 81, .tmp 82] _ _ _ _ _ _ (by rfl) Try.func30 (by kernel_rfl) (by rfl) (by rfl) (.cons (known_core 3 81 _ _ (of_decide_eq_true (by rfl)) (by rfl) (by rfl) (by rfl)) (.cons (known_core 4 82 _ _ (of_decide_eq_true (by rfl)) (by rfl) (by rfl) (by rfl)) .nil)) (HB2.out)
    · exact fun _ => core_load _ _ _ _ _ gm _ _ _ _ (by rfl) (by rfl) (known_old 5 _ (of_decide_eq_true (by rfl)) (by rfl)) Fm.out
    · exact fun _ => core_call _ 18 _ _ [.tmp 80, .tmp 83, .tmp 84] _ _ _ _ _ _ (by rfl) Try.func18 (by kernel_rfl) (by rfl) (by rfl) (.cons (known_core 2 80 _ _ (of_decide_eq_true (by rfl)) (by rfl) (by rfl) (by rfl)) (.cons (known_core 5 83 _ _ (of_decide_eq_true (by rfl)) (by rfl) (by rfl) (by rfl)) (.cons (known_core 6 84 _ _ (of_decide_eq_true (by rfl)) (by rfl) (by rfl) (by rfl)) .nil))) (HY3.out)
    · exact core_stepAs _ (by rfl)
    · exact core_stepAs _ (by rfl)
    · exact core_stepAs _ (by rfl)
    · exact fun _ => core_alloc _ _ _ _ _ (by rfl) (by rfl) (Nat.le_refl _)
  intro vs y12 hc
  obtain ⟨vv0, vv1, vv2, vv3, vv4, vv5, vv6, vv7, vv8, vv9, vv10, vv11, rfl⟩ := len12 vs hc.lv
  have qq0 : vv0 = .agg #[.int .u64 (wd A 0 : Nat), .int .u64 (wd A 1 : Nat), .int .u64 (wd A 2 : Nat), .int .u64 (wd A 3 : Nat)] := by obtain ⟨xx, hx, hy⟩ := hc.ok 0 _ rfl rfl; exact (Option.some.inj (show some vv0 = some xx from hx)).trans hy
  have qq1 : vv1 = .agg #[.int .u64 (wd M 0 : Nat), .int .u64 (wd M 1 : Nat), .int .u64 (wd M 2 : Nat), .int .u64 (wd M 3 : Nat)] := by obtain ⟨xx, hx, hy⟩ := hc.ok 1 _ rfl rfl; exact (Option.some.inj (show some vv1 = some xx from hx)).trans hy
  have qq2 : vv2 = .agg #[.int .u64 (wd a 0 : Nat), .int .u64 (wd a 1 : Nat), .int .u64 (wd a 2 : Nat), .int .u64 (wd a 3 : Nat)] := by obtain ⟨xx, hx, hy⟩ := hc.ok 2 _ rfl rfl; exact (Option.some.inj (show some vv2 = some xx from hx)).trans hy
  have qq3 : vv3 = .agg #[.int .u64 (wd B 0 : Nat), .int .u64 (wd B 1 : Nat), .int .u64 (wd B 2 : Nat), .int .u64 (wd B 3 : Nat)] := by obtain ⟨xx, hx, hy⟩ := hc.ok 3 _ rfl rfl; exact (Option.some.inj (show some vv3 = some xx from hx)).trans hy
  have qq4 : vv4 = .agg #[.int .u64 (wd M 0 : Nat), .int .u64 (wd M 1 : Nat), .int .u64 (wd M 2 : Nat), .int .u64 (wd M 3 : Nat)] := by obtain ⟨xx, hx, hy⟩ := hc.ok 4 _ rfl rfl; exact (Option.some.inj (show some vv4 = some xx from hx)).trans hy
  have qq5 : vv5 = .agg #[.int .u64 (wd b 0 : Nat), .int .u64 (wd b 1 : Nat), .int .u64 (wd b 2 : Nat), .int .u64 (wd b 3 : Nat)] := by obtain ⟨xx, hx, hy⟩ := hc.ok 5 _ rfl rfl; exact (Option.some.inj (show some vv5 = some xx from hx)).trans hy
  have qq6 : vv6 = .agg #[.int .u64 (wd M 0 : Nat), .int .u64 (wd M 1 : Nat), .int .u64 (wd M 2 : Nat), .int .u64 (wd M 3 : Nat)] := by obtain ⟨xx, hx, hy⟩ := hc.ok 6 _ rfl rfl; exact (Option.some.inj (show some vv6 = some xx from hx)).trans hy
  have qq7 : vv7 = .tuple #[.agg #[.int .u64 (wd z 0 : Nat), .int .u64 (wd z 1 : Nat), .int .u64 (wd z 2 : Nat), .int .u64 (wd z 3 : Nat)], .int .i64 0] := by obtain ⟨xx, hx, hy⟩ := hc.ok 7 _ rfl rfl; exact (Option.some.inj (show some vv7 = some xx from hx)).trans hy
  have qq8 : vv8 = .tuple #[.agg #[.int .u64 (wd z 0 : Nat), .int .u64 (wd z 1 : Nat), .int .u64 (wd z 2 : Nat), .int .u64 (wd z 3 : Nat)], .int .i64 0] := by obtain ⟨xx, hx, hy⟩ := hc.ok 8 _ rfl rfl; exact (Option.some.inj (show some vv8 = some xx from hx)).trans hy
  have qq9 : vv9 = .agg #[.int .u64 (wd z 0 : Nat), .int .u64 (wd z 1 : Nat), .int .u64 (wd z 2 : Nat), .int .u64 (wd z 3 : Nat)] := by obtain ⟨xx, hx, hy⟩ := hc.ok 9 _ rfl rfl; exact (Option.some.inj (show some vv9 = some xx from hx)).trans hy
  have qq10 : vv10 = .int .i64 0 := by obtain ⟨xx, hx, hy⟩ := hc.ok 10 _ rfl rfl; exact (Option.some.inj (show some vv10 = some xx from hx)).trans hy
  obtain ⟨xx, hx, gz, hv, Ez, Az⟩ := hc.ok 11 _ rfl rfl
  have qq11 : vv11 = .pointer (some ⟨gz, 0, none⟩) := (Option.some.inj (show some vv11 = some xx from hx)).trans hv
  clear hx hv
  have BZ := hc.bel
  clear hc
  have Na := Fa.out.on BZ
  have Nb := Fb.out.on BZ
  have Nm := Fm.out.on BZ
  have Np := Fp.out.on BZ
  have Nq := Fq.out.on BZ
  have Nx := Fx.out.on BZ
  have Ny := Fy.out.on BZ
  have Daz : ga ≠ gz := by have := Fa.out.lt; omega
  have Dbz : gb ≠ gz := by have := Fb.out.lt; omega
  have Dmz : gm ≠ gz := by have := Fm.out.lt; omega
  have Dpz : gp ≠ gz := by have := Fp.out.lt; omega
  have Dqz : gq ≠ gz := by have := Fq.out.lt; omega
  have Dxz : gx ≠ gz := by have := Fx.out.lt; omega
  have Dyz : gy ≠ gz := by have := Fy.out.lt; omega
  have HSZ12 := BW.out.size
  have NB := bel_tr BW.out BZ
  clear BW BZ Fa Fb Fm Fp Fq Fx Fy
  subst qq0 qq1 qq2 qq3 qq4 qq5 qq6 qq7 qq8 qq9 qq10 qq11
  simp only [List.map_cons, List.map_nil, over, Act.put, List.setIfInBounds_toArray, List.set_cons_zero, List.set_cons_succ]
  have OLD := Az
  replace Na := put4_far Na Daz (.int .u64 (wd z 0 : Nat)) (.int .u64 (wd z 1 : Nat)) (.int .u64 (wd z 2 : Nat)) (.int .u64 (wd z 3 : Nat))
  replace Nb := put4_far Nb Dbz (.int .u64 (wd z 0 : Nat)) (.int .u64 (wd z 1 : Nat)) (.int .u64 (wd z 2 : Nat)) (.int .u64 (wd z 3 : Nat))
  replace Nm := put4_far Nm Dmz (.int .u64 (wd z 0 : Nat)) (.int .u64 (wd z 1 : Nat)) (.int .u64 (wd z 2 : Nat)) (.int .u64 (wd z 3 : Nat))
  replace Np := put4_far Np Dpz (.int .u64 (wd z 0 : Nat)) (.int .u64 (wd z 1 : Nat)) (.int .u64 (wd z 2 : Nat)) (.int .u64 (wd z 3 : Nat))
  replace Nq := put4_far Nq Dqz (.int .u64 (wd z 0 : Nat)) (.int .u64 (wd z 1 : Nat)) (.int .u64 (wd z 2 : Nat)) (.int .u64 (wd z 3 : Nat))
  replace Nx := put4_far Nx Dxz (.int .u64 (wd z 0 : Nat)) (.int .u64 (wd z 1 : Nat)) (.int .u64 (wd z 2 : Nat)) (.int .u64 (wd z 3 : Nat))
  replace Ny := put4_far Ny Dyz (.int .u64 (wd z 0 : Nat)) (.int .u64 (wd z 1 : Nat)) (.int .u64 (wd z 2 : Nat)) (.int .u64 (wd z 3 : Nat))
  replace Az := put4_at Az (.int .u64 (wd z 0 : Nat)) (.int .u64 (wd z 1 : Nat)) (.int .u64 (wd z 2 : Nat)) (.int .u64 (wd z 3 : Nat))
  replace NB := put4_below NB (Nat.le_trans HSZ12 Ez) (.int .u64 (wd z 0 : Nat)) (.int .u64 (wd z 1 : Nat)) (.int .u64 (wd z 2 : Nat)) (.int .u64 (wd z 3 : Nat))
  refine store_one (i := 12) _ _ _ _ _ gz _ _ _ _ _ _ _ _ (by kernel_rfl) (by rfl) (by rfl) (by rfl) OLD (trivial) ?_
  clear OLD
  generalize (put4 y12 gz (.int .u64 (wd z 0 : Nat)) (.int .u64 (wd z 1 : Nat)) (.int .u64 (wd z 2 : Nat)) (.int .u64 (wd z 3 : Nat))) = y12_12 at *
  refine assign_one (i := 13) _ 20 _ _ _ _ (by kernel_rfl) (by rfl) (by rfl) (trivial) ?_
  try simp only [Act.put, List.setIfInBounds_toArray, List.set_cons_zero, List.set_cons_succ]
  refine wpAnyH_done (by kernel_rfl) ?_ _
  refine NoPanic.normal ?_
  have Fa := Lib.hid Na
  have Fb := Lib.hid Nb
  have Fm := Lib.hid Nm
  have Fp := Lib.hid Np
  have Fq := Lib.hid Nq
  have Fx := Lib.hid Nx
  have Fy := Lib.hid Ny
  have Fz := Lib.hid Az
  have BW := Lib.hid NB
  clear NB Na Nb Nm Np Nq Nx Ny Az
  clear Ez
  clear HSZ12
  go_wp2_with fail
  try simp only [List.append_eq, List.cons_append, List.nil_append]
  refine wp_region_noPanic ?_
  refine wp_region_held_drew (S := fun w' => True) (by kernel_rfl) (trivial) (fun _ => ?_)
  refine wpAnyH_cores (fuel := 2) (⟨0, 89, [], Kind.val (.agg #[.int .u64 (wd z 0 : Nat), .int .u64 (wd z 1 : Nat), .int .u64 (wd z 2 : Nat), .int .u64 (wd z 3 : Nat)]), false⟩ :: ⟨1, 90, [], Kind.val (.agg #[.int .u64 (wd B 0 : Nat), .int .u64 (wd B 1 : Nat), .int .u64 (wd B 2 : Nat), .int .u64 (wd B 3 : Nat)]), false⟩ :: ⟨2, 91, [], Kind.val (.agg #[.int .u64 (wd M 0 : Nat), .int .u64 (wd M 1 : Nat), .int .u64 (wd M 2 : Nat), .int .u64 (wd M 3 : Nat)]), false⟩ :: ⟨3, 92, [1, 2], Kind.val (.agg #[.int .u64 (wd b 0 : Nat), .int .u64 (wd b 1 : Nat), .int .u64 (wd b 2 : Nat), .int .u64 (wd b 3 : Nat)]), false⟩ :: ⟨4, 93, [], Kind.val (.agg #[.int .u64 (wd M 0 : Nat), .int .u64 (wd M 1 : Nat), .int .u64 (wd M 2 : Nat), .int .u64 (wd M 3 : Nat)]), false⟩ :: ⟨5, 94, [0, 3, 4], Kind.val (.tuple #[.agg #[.int .u64 (wd a 0 : Nat), .int .u64 (wd a 1 : Nat), .int .u64 (wd a 2 : Nat), .int .u64 (wd a 3 : Nat)], .int .i64 0]), false⟩ :: ⟨6, 88, [5], Kind.val (.tuple #[.agg #[.int .u64 (wd a 0 : Nat), .int .u64 (wd a 1 : Nat), .int .u64 (wd a 2 : Nat), .int .u64 (wd a 3 : Nat)], .int .i64 0]), true⟩ :: ⟨7, 95, [6], Kind.val (.agg #[.int .u64 (wd a 0 : Nat), .int .u64 (wd a 1 : Nat), .int .u64 (wd a 2 : Nat), .int .u64 (wd a 3 : Nat)]), true⟩ :: ⟨8, 96, [6], Kind.val (.int .i64 0), true⟩ :: ⟨9, 21, [], Kind.cell y12_12.heap.size 24 #[.int .u64 0, .int .u64 0, .int .u64 0, .int .u64 0], false⟩ :: []) _ _ y12_12 _ ?_ ?_ ?_ ?_ ?_ ?_ ?_ ?_ ?_ ?_ ?_
  · rfl
  · kernel_rfl
  · exact of_decide_eq_true rfl
  · exact all_cons ⟨_, rfl, rfl⟩ (all_cons ⟨_, rfl, rfl⟩ (all_cons ⟨_, rfl, rfl⟩ (all_cons ⟨_, rfl, rfl⟩ (all_cons ⟨_, rfl, rfl⟩ (all_cons ⟨_, rfl, rfl⟩ (all_cons ⟨_, rfl, rfl⟩ (all_cons ⟨_, rfl, rfl⟩ (all_cons ⟨_, rfl, rfl⟩ (all_cons ⟨_, rfl, rfl⟩ (all_nil))))))))))
  · exact fun _ hb => trivial
  · exact (Below.refl _ _).drew
  · kernel_rfl
  · exact fun _ _ _ _ _ h => h
  · refine all_cons ?_ (all_cons ?_ (all_cons ?_ (all_cons ?_ (all_cons ?_ (all_cons ?_ (all_cons ?_ (all_cons ?_ (all_cons ?_ (all_cons ?_ (all_nil))))))))))
    · exact core_pureAs _ (by rfl)
    · exact core_pureAs _ (by rfl)
    · exact core_pureAs _ (by rfl)
    · exact core_pureAs _ (by rfl)
    · exact core_pureAs _ (by rfl)
    · exact core_pureAs _ (by rfl)
    · exact core_move _ _ _ _ _ _ (by rfl) (by rfl) (known_core 5 94 _ _ (of_decide_eq_true (by rfl)) (by rfl) (by rfl) (by rfl))
    · exact core_extract _ _ 0 _ _ _ _ _ (by rfl) (by rfl) (known_core 6 88 _ _ (of_decide_eq_true (by rfl)) (by rfl) (by rfl) (by rfl)) (by rfl)
    · exact core_extract _ _ 1 _ _ _ _ _ (by rfl) (by rfl) (known_core 6 88 _ _ (of_decide_eq_true (by rfl)) (by rfl) (by rfl) (by rfl)) (by rfl)
    · exact core_pureAs _ (by rfl)
  · refine all_cons ?_ (all_cons ?_ (all_cons ?_ (all_cons ?_ (all_cons ?_ (all_cons ?_ (all_cons ?_ (all_cons ?_ (all_cons ?_ (all_cons ?_ (all_nil))))))))))
    · exact fun _ => core_load _ _ _ _ _ gz _ _ _ _ (by rfl) (by rfl) (known_old 19 _ (of_decide_eq_true (by rfl)) (by rfl)) Fz.out
    · exact fun _ => core_load _ _ _ _ _ gb _ _ _ _ (by rfl) (by rfl) (known_old 4 _ (of_decide_eq_true (by rfl)) (by rfl)) Fb.out
    · exact fun _ => core_load _ _ _ _ _ gm _ _ _ _ (by rfl) (by rfl) (known_old 5 _ (of_decide_eq_true (by rfl)) (by rfl)) Fm.out
    · exact fun _ => core_call _ 30 _ _ [.tmp 90, .tmp 91] _ _ _ _ _ _ (by rfl) Try.func30 (by kernel_rfl) (by rfl) (by rfl) (.cons (known_core 1 90 _ _ (of_decide_eq_true (by rfl)) (by rfl) (by rfl) (by rfl)) (.cons (known_core 2 91 _ _ (of_decide_eq_true (by rfl)) (by rfl) (by rfl) (by rfl)) .nil)) (HB2.out)
    · exact fun _ => core_load _ _ _ _ _ gm _ _ _ _ (by rfl) (by rfl) (known_old 5 _ (of_decide_eq_true (by rfl)) (by rfl)) Fm.out
    · exact fun _ => core_call _ 17 _ _ [.tmp 89, .tmp 92, .tmp 93] _ _ _ _ _ _ (by rfl) Try.func17 (by kernel_rfl) (by rfl) (by rfl) (.cons (known_core 0 89 _ _ (of_decide_eq_true (by rfl)) (by rfl) (by rfl) (by rfl)) (.cons (known_core 3 92 _ _ (of_decide_eq_true (by rfl)) (by rfl) (by rfl) (by rfl)) (.cons (known_core 4 93 _ _ (of_decide_eq_true (by rfl)) (by rfl) (by rfl) (by rfl)) .nil))) (HY4.out)
    · exact core_stepAs _ (by rfl)
    · exact core_stepAs _ (by rfl)
    · exact core_stepAs _ (by rfl)
    · exact fun _ => core_alloc _ _ _ _ _ (by rfl) (by rfl) (Nat.le_refl _)
  intro vs y13 hc
  obtain ⟨vv0, vv1, vv2, vv3, vv4, vv5, vv6, vv7, vv8, vv9, rfl⟩ := len10 vs hc.lv
  have qq0 : vv0 = .agg #[.int .u64 (wd z 0 : Nat), .int .u64 (wd z 1 : Nat), .int .u64 (wd z 2 : Nat), .int .u64 (wd z 3 : Nat)] := by obtain ⟨xx, hx, hy⟩ := hc.ok 0 _ rfl rfl; exact (Option.some.inj (show some vv0 = some xx from hx)).trans hy
  have qq1 : vv1 = .agg #[.int .u64 (wd B 0 : Nat), .int .u64 (wd B 1 : Nat), .int .u64 (wd B 2 : Nat), .int .u64 (wd B 3 : Nat)] := by obtain ⟨xx, hx, hy⟩ := hc.ok 1 _ rfl rfl; exact (Option.some.inj (show some vv1 = some xx from hx)).trans hy
  have qq2 : vv2 = .agg #[.int .u64 (wd M 0 : Nat), .int .u64 (wd M 1 : Nat), .int .u64 (wd M 2 : Nat), .int .u64 (wd M 3 : Nat)] := by obtain ⟨xx, hx, hy⟩ := hc.ok 2 _ rfl rfl; exact (Option.some.inj (show some vv2 = some xx from hx)).trans hy
  have qq3 : vv3 = .agg #[.int .u64 (wd b 0 : Nat), .int .u64 (wd b 1 : Nat), .int .u64 (wd b 2 : Nat), .int .u64 (wd b 3 : Nat)] := by obtain ⟨xx, hx, hy⟩ := hc.ok 3 _ rfl rfl; exact (Option.some.inj (show some vv3 = some xx from hx)).trans hy
  have qq4 : vv4 = .agg #[.int .u64 (wd M 0 : Nat), .int .u64 (wd M 1 : Nat), .int .u64 (wd M 2 : Nat), .int .u64 (wd M 3 : Nat)] := by obtain ⟨xx, hx, hy⟩ := hc.ok 4 _ rfl rfl; exact (Option.some.inj (show some vv4 = some xx from hx)).trans hy
  have qq5 : vv5 = .tuple #[.agg #[.int .u64 (wd a 0 : Nat), .int .u64 (wd a 1 : Nat), .int .u64 (wd a 2 : Nat), .int .u64 (wd a 3 : Nat)], .int .i64 0] := by obtain ⟨xx, hx, hy⟩ := hc.ok 5 _ rfl rfl; exact (Option.some.inj (show some vv5 = some xx from hx)).trans hy
  have qq6 : vv6 = .tuple #[.agg #[.int .u64 (wd a 0 : Nat), .int .u64 (wd a 1 : Nat), .int .u64 (wd a 2 : Nat), .int .u64 (wd a 3 : Nat)], .int .i64 0] := by obtain ⟨xx, hx, hy⟩ := hc.ok 6 _ rfl rfl; exact (Option.some.inj (show some vv6 = some xx from hx)).trans hy
  have qq7 : vv7 = .agg #[.int .u64 (wd a 0 : Nat), .int .u64 (wd a 1 : Nat), .int .u64 (wd a 2 : Nat), .int .u64 (wd a 3 : Nat)] := by obtain ⟨xx, hx, hy⟩ := hc.ok 7 _ rfl rfl; exact (Option.some.inj (show some vv7 = some xx from hx)).trans hy
  have qq8 : vv8 = .int .i64 0 := by obtain ⟨xx, hx, hy⟩ := hc.ok 8 _ rfl rfl; exact (Option.some.inj (show some vv8 = some xx from hx)).trans hy
  obtain ⟨xx, hx, gk, hv, Ek, Ak⟩ := hc.ok 9 _ rfl rfl
  have qq9 : vv9 = .pointer (some ⟨gk, 0, none⟩) := (Option.some.inj (show some vv9 = some xx from hx)).trans hv
  clear hx hv
  have BZ := hc.bel
  clear hc
  have Na := Fa.out.on BZ
  have Nb := Fb.out.on BZ
  have Nm := Fm.out.on BZ
  have Np := Fp.out.on BZ
  have Nq := Fq.out.on BZ
  have Nx := Fx.out.on BZ
  have Ny := Fy.out.on BZ
  have Nz := Fz.out.on BZ
  have Dak : ga ≠ gk := by have := Fa.out.lt; omega
  have Dbk : gb ≠ gk := by have := Fb.out.lt; omega
  have Dmk : gm ≠ gk := by have := Fm.out.lt; omega
  have Dpk : gp ≠ gk := by have := Fp.out.lt; omega
  have Dqk : gq ≠ gk := by have := Fq.out.lt; omega
  have Dxk : gx ≠ gk := by have := Fx.out.lt; omega
  have Dyk : gy ≠ gk := by have := Fy.out.lt; omega
  have Dzk : gz ≠ gk := by have := Fz.out.lt; omega
  have HSZ13 := BW.out.size
  have NB := bel_tr BW.out BZ
  clear BW BZ Fa Fb Fm Fp Fq Fx Fy Fz
  subst qq0 qq1 qq2 qq3 qq4 qq5 qq6 qq7 qq8 qq9
  simp only [List.map_cons, List.map_nil, over, Act.put, List.setIfInBounds_toArray, List.set_cons_zero, List.set_cons_succ]
  have OLD := Ak
  replace Na := put4_far Na Dak (.int .u64 (wd a 0 : Nat)) (.int .u64 (wd a 1 : Nat)) (.int .u64 (wd a 2 : Nat)) (.int .u64 (wd a 3 : Nat))
  replace Nb := put4_far Nb Dbk (.int .u64 (wd a 0 : Nat)) (.int .u64 (wd a 1 : Nat)) (.int .u64 (wd a 2 : Nat)) (.int .u64 (wd a 3 : Nat))
  replace Nm := put4_far Nm Dmk (.int .u64 (wd a 0 : Nat)) (.int .u64 (wd a 1 : Nat)) (.int .u64 (wd a 2 : Nat)) (.int .u64 (wd a 3 : Nat))
  replace Np := put4_far Np Dpk (.int .u64 (wd a 0 : Nat)) (.int .u64 (wd a 1 : Nat)) (.int .u64 (wd a 2 : Nat)) (.int .u64 (wd a 3 : Nat))
  replace Nq := put4_far Nq Dqk (.int .u64 (wd a 0 : Nat)) (.int .u64 (wd a 1 : Nat)) (.int .u64 (wd a 2 : Nat)) (.int .u64 (wd a 3 : Nat))
  replace Nx := put4_far Nx Dxk (.int .u64 (wd a 0 : Nat)) (.int .u64 (wd a 1 : Nat)) (.int .u64 (wd a 2 : Nat)) (.int .u64 (wd a 3 : Nat))
  replace Ny := put4_far Ny Dyk (.int .u64 (wd a 0 : Nat)) (.int .u64 (wd a 1 : Nat)) (.int .u64 (wd a 2 : Nat)) (.int .u64 (wd a 3 : Nat))
  replace Nz := put4_far Nz Dzk (.int .u64 (wd a 0 : Nat)) (.int .u64 (wd a 1 : Nat)) (.int .u64 (wd a 2 : Nat)) (.int .u64 (wd a 3 : Nat))
  replace Ak := put4_at Ak (.int .u64 (wd a 0 : Nat)) (.int .u64 (wd a 1 : Nat)) (.int .u64 (wd a 2 : Nat)) (.int .u64 (wd a 3 : Nat))
  replace NB := put4_below NB (Nat.le_trans HSZ13 Ek) (.int .u64 (wd a 0 : Nat)) (.int .u64 (wd a 1 : Nat)) (.int .u64 (wd a 2 : Nat)) (.int .u64 (wd a 3 : Nat))
  refine store_one (i := 10) _ _ _ _ _ gk _ _ _ _ _ _ _ _ (by kernel_rfl) (by rfl) (by rfl) (by rfl) OLD (trivial) ?_
  clear OLD
  generalize (put4 y13 gk (.int .u64 (wd a 0 : Nat)) (.int .u64 (wd a 1 : Nat)) (.int .u64 (wd a 2 : Nat)) (.int .u64 (wd a 3 : Nat))) = y13_10 at *
  refine assign_one (i := 11) _ 22 _ _ _ _ (by kernel_rfl) (by rfl) (by rfl) (trivial) ?_
  try simp only [Act.put, List.setIfInBounds_toArray, List.set_cons_zero, List.set_cons_succ]
  refine wpAnyH_done (by kernel_rfl) ?_ _
  refine NoPanic.normal ?_
  have Fa := Lib.hid Na
  have Fb := Lib.hid Nb
  have Fm := Lib.hid Nm
  have Fp := Lib.hid Np
  have Fq := Lib.hid Nq
  have Fx := Lib.hid Nx
  have Fy := Lib.hid Ny
  have Fz := Lib.hid Nz
  have Fk := Lib.hid Ak
  have BW := Lib.hid NB
  clear NB Na Nb Nm Np Nq Nx Ny Nz Ak
  clear Ek
  clear HSZ13
  go_wp2_with fail
  clear Fz
  clear Fb
  try simp only [List.append_eq, List.cons_append, List.nil_append]
  refine wp_region_noPanic ?_
  refine wp_region_held_drew (S := fun w' => At w' gp 24 #[.int .u64 (wd p 0 : Nat), .int .u64 (wd p 1 : Nat), .int .u64 (wd p 2 : Nat), .int .u64 (wd p 3 : Nat)] ∧ At w' gx 24 #[.int .u64 (wd p 0 : Nat), .int .u64 (wd p 1 : Nat), .int .u64 (wd p 2 : Nat), .int .u64 (wd p 3 : Nat)] ∧ At w' gq 24 #[.int .u64 (wd q 0 : Nat), .int .u64 (wd q 1 : Nat), .int .u64 (wd q 2 : Nat), .int .u64 (wd q 3 : Nat)] ∧ At w' gy 24 #[.int .u64 (wd q 0 : Nat), .int .u64 (wd q 1 : Nat), .int .u64 (wd q 2 : Nat), .int .u64 (wd q 3 : Nat)] ∧ At w' gk 24 #[.int .u64 (wd a 0 : Nat), .int .u64 (wd a 1 : Nat), .int .u64 (wd a 2 : Nat), .int .u64 (wd a 3 : Nat)] ∧ At w' ga 24 #[.int .u64 (wd A 0 : Nat), .int .u64 (wd A 1 : Nat), .int .u64 (wd A 2 : Nat), .int .u64 (wd A 3 : Nat)] ∧ At w' gm 24 #[.int .u64 (wd M 0 : Nat), .int .u64 (wd M 1 : Nat), .int .u64 (wd M 2 : Nat), .int .u64 (wd M 3 : Nat)]) (by kernel_rfl) (⟨Fp.out.drew, Fx.out.drew, Fq.out.drew, Fy.out.drew, Fk.out.drew, Fa.out.drew, Fm.out.drew⟩) (fun _ => ?_)
  refine wpAnyH_cores (fuel := 1) (⟨0, 97, [], Kind.val (.bool true), false⟩ :: ⟨1, 98, [0], Kind.val (.bool true), true⟩ :: ⟨2, 99, [1], Kind.val (.int .i64 0), true⟩ :: ⟨3, 100, [1, 2], Kind.val (.bool true), true⟩ :: ⟨4, 101, [1, 3], Kind.val (.bool true), true⟩ :: ⟨5, 102, [4], Kind.val (.bool true), true⟩ :: ⟨6, 103, [5], Kind.val (.int .i64 0), true⟩ :: ⟨7, 104, [5, 6], Kind.val (.bool true), true⟩ :: ⟨8, 105, [5, 7], Kind.val (.bool true), true⟩ :: ⟨9, 106, [8], Kind.val (.bool true), true⟩ :: ⟨10, 107, [9], Kind.val (.int .i64 0), true⟩ :: ⟨11, 108, [9, 10], Kind.val (.bool true), true⟩ :: ⟨12, 109, [9, 11], Kind.val (.bool true), true⟩ :: ⟨13, 110, [12], Kind.val (.bool true), true⟩ :: ⟨14, 111, [13], Kind.val (.int .i64 0), true⟩ :: ⟨15, 112, [13, 14], Kind.val (.bool true), true⟩ :: ⟨16, 113, [13, 15], Kind.val (.bool true), true⟩ :: ⟨17, 114, [16], Kind.val (.bool true), true⟩ :: ⟨18, 115, [17], Kind.val (.int .i64 0), true⟩ :: ⟨19, 116, [17, 18], Kind.val (.bool true), true⟩ :: ⟨20, 117, [17, 19], Kind.val (.bool true), true⟩ :: ⟨21, 118, [20], Kind.val (.bool true), true⟩ :: ⟨22, 119, [21], Kind.val (.int .i64 0), true⟩ :: ⟨23, 120, [21, 22], Kind.val (.bool true), true⟩ :: ⟨24, 121, [21, 23], Kind.val (.bool true), true⟩ :: ⟨25, 122, [24], Kind.val (.bool true), true⟩ :: ⟨26, 123, [25], Kind.val (.agg #[.int .u64 (wd p 0 : Nat), .int .u64 (wd p 1 : Nat), .int .u64 (wd p 2 : Nat), .int .u64 (wd p 3 : Nat)]), true⟩ :: ⟨27, 124, [25, 26], Kind.val (.agg #[.int .u64 (wd p 0 : Nat), .int .u64 (wd p 1 : Nat), .int .u64 (wd p 2 : Nat), .int .u64 (wd p 3 : Nat)]), true⟩ :: ⟨28, 125, [25, 26, 27], Kind.val (.bool true), true⟩ :: ⟨29, 126, [25, 28], Kind.val (.bool true), true⟩ :: ⟨30, 127, [29], Kind.val (.bool true), true⟩ :: ⟨31, 128, [30], Kind.val (.agg #[.int .u64 (wd q 0 : Nat), .int .u64 (wd q 1 : Nat), .int .u64 (wd q 2 : Nat), .int .u64 (wd q 3 : Nat)]), true⟩ :: ⟨32, 129, [30, 31], Kind.val (.agg #[.int .u64 (wd q 0 : Nat), .int .u64 (wd q 1 : Nat), .int .u64 (wd q 2 : Nat), .int .u64 (wd q 3 : Nat)]), true⟩ :: ⟨33, 130, [30, 31, 32], Kind.val (.bool true), true⟩ :: ⟨34, 131, [30, 33], Kind.val (.bool true), true⟩ :: ⟨35, 132, [34], Kind.val (.bool true), true⟩ :: ⟨36, 133, [35], Kind.val (.agg #[.int .u64 (wd a 0 : Nat), .int .u64 (wd a 1 : Nat), .int .u64 (wd a 2 : Nat), .int .u64 (wd a 3 : Nat)]), true⟩ :: ⟨37, 134, [35, 36], Kind.val (.agg #[.int .u64 (wd A 0 : Nat), .int .u64 (wd A 1 : Nat), .int .u64 (wd A 2 : Nat), .int .u64 (wd A 3 : Nat)]), true⟩ :: ⟨38, 135, [35, 37], Kind.val (.agg #[.int .u64 (wd M 0 : Nat), .int .u64 (wd M 1 : Nat), .int .u64 (wd M 2 : Nat), .int .u64 (wd M 3 : Nat)]), true⟩ :: ⟨39, 136, [35, 37, 38], Kind.val (.agg #[.int .u64 (wd a 0 : Nat), .int .u64 (wd a 1 : Nat), .int .u64 (wd a 2 : Nat), .int .u64 (wd a 3 : Nat)]), false⟩ :: ⟨40, 137, [35, 36, 39], Kind.val (.bool true), true⟩ :: ⟨41, 138, [35, 40], Kind.val (.bool true), true⟩ :: []) _ _ y13_10 _ ?_ ?_ ?_ ?_ ?_ ?_ ?_ ?_ ?_ ?_ ?_
  · rfl
  · kernel_rfl
  · exact of_decide_eq_true (by kernel_rfl)
  · exact all_cons ⟨_, by rfl, by rfl⟩ (all_cons ⟨_, by rfl, by rfl⟩ (all_cons ⟨_, by rfl, by rfl⟩ (all_cons ⟨_, by rfl, by rfl⟩ (all_cons ⟨_, by rfl, by rfl⟩ (all_cons ⟨_, by rfl, by rfl⟩ (all_cons ⟨_, by rfl, by rfl⟩ (all_cons ⟨_, by rfl, by rfl⟩ (all_cons ⟨_, by rfl, by rfl⟩ (all_cons ⟨_, by rfl, by rfl⟩ (all_cons ⟨_, by rfl, by rfl⟩ (all_cons ⟨_, by rfl, by rfl⟩ (all_cons ⟨_, by rfl, by rfl⟩ (all_cons ⟨_, by rfl, by rfl⟩ (all_cons ⟨_, by rfl, by rfl⟩ (all_cons ⟨_, by rfl, by rfl⟩ (all_cons ⟨_, by rfl, by rfl⟩ (all_cons ⟨_, by rfl, by rfl⟩ (all_cons ⟨_, by rfl, by rfl⟩ (all_cons ⟨_, by rfl, by rfl⟩ (all_cons ⟨_, by rfl, by rfl⟩ (all_cons ⟨_, by rfl, by rfl⟩ (all_cons ⟨_, by rfl, by rfl⟩ (all_cons ⟨_, by rfl, by rfl⟩ (all_cons ⟨_, by rfl, by rfl⟩ (all_cons ⟨_, by rfl, by rfl⟩ (all_cons ⟨_, by rfl, by rfl⟩ (all_cons ⟨_, by rfl, by rfl⟩ (all_cons ⟨_, by rfl, by rfl⟩ (all_cons ⟨_, by rfl, by rfl⟩ (all_cons ⟨_, by rfl, by rfl⟩ (all_cons ⟨_, by rfl, by rfl⟩ (all_cons ⟨_, by rfl, by rfl⟩ (all_cons ⟨_, by rfl, by rfl⟩ (all_cons ⟨_, by rfl, by rfl⟩ (all_cons ⟨_, by rfl, by rfl⟩ (all_cons ⟨_, by rfl, by rfl⟩ (all_cons ⟨_, by rfl, by rfl⟩ (all_cons ⟨_, by rfl, by rfl⟩ (all_cons ⟨_, by rfl, by rfl⟩ (all_cons ⟨_, by rfl, by rfl⟩ (all_cons ⟨_, by rfl, by rfl⟩ (all_nil))))))))))))))))))))))))))))))))))))))))))
  · exact fun _ hb => ⟨Fp.out.on hb, Fx.out.on hb, Fq.out.on hb, Fy.out.on hb, Fk.out.on hb, Fa.out.on hb, Fm.out.on hb⟩
  · exact (Below.refl _ _).drew
  · kernel_rfl
  · exact fun _ _ _ _ _ h => h
  · refine all_cons ?_ (all_cons ?_ (all_cons ?_ (all_cons ?_ (all_cons ?_ (all_cons ?_ (all_cons ?_ (all_cons ?_ (all_cons ?_ (all_cons ?_ (all_cons ?_ (all_cons ?_ (all_cons ?_ (all_cons ?_ (all_cons ?_ (all_cons ?_ (all_cons ?_ (all_cons ?_ (all_cons ?_ (all_cons ?_ (all_cons ?_ (all_cons ?_ (all_cons ?_ (all_cons ?_ (all_cons ?_ (all_cons ?_ (all_cons ?_ (all_cons ?_ (all_cons ?_ (all_cons ?_ (all_cons ?_ (all_cons ?_ (all_cons ?_ (all_cons ?_ (all_cons ?_ (all_cons ?_ (all_cons ?_ (all_cons ?_ (all_cons ?_ (all_cons ?_ (all_cons ?_ (all_cons ?_ (all_nil))))))))))))))))))))))))))))))))))))))))))
    · exact core_pureAs _ (by rfl)
    · exact coreG_move _ _ _ _ _ _ _ (by rfl) (by rfl) (wants_none) (known_core 0 97 _ _ (of_decide_eq_true (by rfl)) (by rfl) (by rfl) (by rfl))
    · exact coreG_move _ _ _ _ _ _ _ (by rfl) (by rfl) (wants_core 1 98 1 _ _ _ (by rfl) (by rfl) (by rfl) (known_core 1 98 _ _ (of_decide_eq_true (by rfl)) (by rfl) (by rfl) (by rfl)) _ (by rfl)) (known_old 10 _ (of_decide_eq_true (by rfl)) (by rfl))
    · exact coreG_bin _ _ _ _ _ _ _ _ _ _ _ _ _ (by rfl) (by rfl) (wants_core 1 98 1 _ _ _ (by rfl) (by rfl) (by rfl) (known_core 1 98 _ _ (of_decide_eq_true (by rfl)) (by rfl) (by rfl) (by rfl)) _ (by rfl)) (known_core 2 99 _ _ (of_decide_eq_true (by rfl)) (by rfl) (by rfl) (by rfl)) (known_const _) ((fun ρ w hx hy => by simp only [execOp, hx, hy]; simp [go_sem]))
    · exact coreG_pick _ _ _ _ _ _ _ _ _ _ _ _ (by rfl) (by rfl) (wants_none) (known_core 1 98 _ _ (of_decide_eq_true (by rfl)) (by rfl) (by rfl) (by rfl)) (known_core 3 100 _ _ (of_decide_eq_true (by rfl)) (by rfl) (by rfl) (by rfl)) (known_const _) (by rfl)
    · exact coreG_move _ _ _ _ _ _ _ (by rfl) (by rfl) (wants_none) (known_core 4 101 _ _ (of_decide_eq_true (by rfl)) (by rfl) (by rfl) (by rfl))
    · exact coreG_move _ _ _ _ _ _ _ (by rfl) (by rfl) (wants_core 5 102 5 _ _ _ (by rfl) (by rfl) (by rfl) (known_core 5 102 _ _ (of_decide_eq_true (by rfl)) (by rfl) (by rfl) (by rfl)) _ (by rfl)) (known_old 14 _ (of_decide_eq_true (by rfl)) (by rfl))
    · exact coreG_bin _ _ _ _ _ _ _ _ _ _ _ _ _ (by rfl) (by rfl) (wants_core 5 102 5 _ _ _ (by rfl) (by rfl) (by rfl) (known_core 5 102 _ _ (of_decide_eq_true (by rfl)) (by rfl) (by rfl) (by rfl)) _ (by rfl)) (known_core 6 103 _ _ (of_decide_eq_true (by rfl)) (by rfl) (by rfl) (by rfl)) (known_const _) ((fun ρ w hx hy => by simp only [execOp, hx, hy]; simp [go_sem]))
    · exact coreG_pick _ _ _ _ _ _ _ _ _ _ _ _ (by rfl) (by rfl) (wants_none) (known_core 5 102 _ _ (of_decide_eq_true (by rfl)) (by rfl) (by rfl) (by rfl)) (known_core 7 104 _ _ (of_decide_eq_true (by rfl)) (by rfl) (by rfl) (by rfl)) (known_const _) (by rfl)
    · exact coreG_move _ _ _ _ _ _ _ (by rfl) (by rfl) (wants_none) (known_core 8 105 _ _ (of_decide_eq_true (by rfl)) (by rfl) (by rfl) (by rfl))
    · exact coreG_move _ _ _ _ _ _ _ (by rfl) (by rfl) (wants_core 9 106 9 _ _ _ (by rfl) (by rfl) (by rfl) (known_core 9 106 _ _ (of_decide_eq_true (by rfl)) (by rfl) (by rfl) (by rfl)) _ (by rfl)) (known_old 16 _ (of_decide_eq_true (by rfl)) (by rfl))
    · exact coreG_bin _ _ _ _ _ _ _ _ _ _ _ _ _ (by rfl) (by rfl) (wants_core 9 106 9 _ _ _ (by rfl) (by rfl) (by rfl) (known_core 9 106 _ _ (of_decide_eq_true (by rfl)) (by rfl) (by rfl) (by rfl)) _ (by rfl)) (known_core 10 107 _ _ (of_decide_eq_true (by rfl)) (by rfl) (by rfl) (by rfl)) (known_const _) ((fun ρ w hx hy => by simp only [execOp, hx, hy]; simp [go_sem]))
    · exact coreG_pick _ _ _ _ _ _ _ _ _ _ _ _ (by rfl) (by rfl) (wants_none) (known_core 9 106 _ _ (of_decide_eq_true (by rfl)) (by rfl) (by rfl) (by rfl)) (known_core 11 108 _ _ (of_decide_eq_true (by rfl)) (by rfl) (by rfl) (by rfl)) (known_const _) (by rfl)
    · exact coreG_move _ _ _ _ _ _ _ (by rfl) (by rfl) (wants_none) (known_core 12 109 _ _ (of_decide_eq_true (by rfl)) (by rfl) (by rfl) (by rfl))
    · exact coreG_move _ _ _ _ _ _ _ (by rfl) (by rfl) (wants_core 13 110 13 _ _ _ (by rfl) (by rfl) (by rfl) (known_core 13 110 _ _ (of_decide_eq_true (by rfl)) (by rfl) (by rfl) (by rfl)) _ (by rfl)) (known_old 18 _ (of_decide_eq_true (by rfl)) (by rfl))
    · exact coreG_bin _ _ _ _ _ _ _ _ _ _ _ _ _ (by rfl) (by rfl) (wants_core 13 110 13 _ _ _ (by rfl) (by rfl) (by rfl) (known_core 13 110 _ _ (of_decide_eq_true (by rfl)) (by rfl) (by rfl) (by rfl)) _ (by rfl)) (known_core 14 111 _ _ (of_decide_eq_true (by rfl)) (by rfl) (by rfl) (by rfl)) (known_const _) ((fun ρ w hx hy => by simp only [execOp, hx, hy]; simp [go_sem]))
    · exact coreG_pick _ _ _ _ _ _ _ _ _ _ _ _ (by rfl) (by rfl) (wants_none) (known_core 13 110 _ _ (of_decide_eq_true (by rfl)) (by rfl) (by rfl) (by rfl)) (known_core 15 112 _ _ (of_decide_eq_true (by rfl)) (by rfl) (by rfl) (by rfl)) (known_const _) (by rfl)
    · exact coreG_move _ _ _ _ _ _ _ (by rfl) (by rfl) (wants_none) (known_core 16 113 _ _ (of_decide_eq_true (by rfl)) (by rfl) (by rfl) (by rfl))
    · exact coreG_move _ _ _ _ _ _ _ (by rfl) (by rfl) (wants_core 17 114 17 _ _ _ (by rfl) (by rfl) (by rfl) (known_core 17 114 _ _ (of_decide_eq_true (by rfl)) (by rfl) (by rfl) (by rfl)) _ (by rfl)) (known_old 20 _ (of_decide_eq_true (by rfl)) (by rfl))
    · exact coreG_bin _ _ _ _ _ _ _ _ _ _ _ _ _ (by rfl) (by rfl) (wants_core 17 114 17 _ _ _ (by rfl) (by rfl) (by rfl) (known_core 17 114 _ _ (of_decide_eq_true (by rfl)) (by rfl) (by rfl) (by rfl)) _ (by rfl)) (known_core 18 115 _ _ (of_decide_eq_true (by rfl)) (by rfl) (by rfl) (by rfl)) (known_const _) ((fun ρ w hx hy => by simp only [execOp, hx, hy]; simp [go_sem]))
    · exact coreG_pick _ _ _ _ _ _ _ _ _ _ _ _ (by rfl) (by rfl) (wants_none) (known_core 17 114 _ _ (of_decide_eq_true (by rfl)) (by rfl) (by rfl) (by rfl)) (known_core 19 116 _ _ (of_decide_eq_true (by rfl)) (by rfl) (by rfl) (by rfl)) (known_const _) (by rfl)
    · exact coreG_move _ _ _ _ _ _ _ (by rfl) (by rfl) (wants_none) (known_core 20 117 _ _ (of_decide_eq_true (by rfl)) (by rfl) (by rfl) (by rfl))
    · exact coreG_move _ _ _ _ _ _ _ (by rfl) (by rfl) (wants_core 21 118 21 _ _ _ (by rfl) (by rfl) (by rfl) (known_core 21 118 _ _ (of_decide_eq_true (by rfl)) (by rfl) (by rfl) (by rfl)) _ (by rfl)) (known_old 22 _ (of_decide_eq_true (by rfl)) (by rfl))
    · exact coreG_bin _ _ _ _ _ _ _ _ _ _ _ _ _ (by rfl) (by rfl) (wants_core 21 118 21 _ _ _ (by rfl) (by rfl) (by rfl) (known_core 21 118 _ _ (of_decide_eq_true (by rfl)) (by rfl) (by rfl) (by rfl)) _ (by rfl)) (known_core 22 119 _ _ (of_decide_eq_true (by rfl)) (by rfl) (by rfl) (by rfl)) (known_const _) ((fun ρ w hx hy => by simp only [execOp, hx, hy]; simp [go_sem]))
    · exact coreG_pick _ _ _ _ _ _ _ _ _ _ _ _ (by rfl) (by rfl) (wants_none) (known_core 21 118 _ _ (of_decide_eq_true (by rfl)) (by rfl) (by rfl) (by rfl)) (known_core 23 120 _ _ (of_decide_eq_true (by rfl)) (by rfl) (by rfl) (by rfl)) (known_const _) (by rfl)
    · exact coreG_move _ _ _ _ _ _ _ (by rfl) (by rfl) (wants_none) (known_core 24 121 _ _ (of_decide_eq_true (by rfl)) (by rfl) (by rfl) (by rfl))
    · exact coreG_loadP _ _ _ _ _ _ gp _ _ _ _ (by rfl) (by rfl) (wants_core 25 122 25 _ _ _ (by rfl) (by rfl) (by rfl) (known_core 25 122 _ _ (of_decide_eq_true (by rfl)) (by rfl) (by rfl) (by rfl)) _ (by rfl)) (known_old 9 _ (of_decide_eq_true (by rfl)) (by rfl)) (fun _ hs => hs.1)
    · exact coreG_loadP _ _ _ _ _ _ gx _ _ _ _ (by rfl) (by rfl) (wants_core 25 122 25 _ _ _ (by rfl) (by rfl) (by rfl) (known_core 25 122 _ _ (of_decide_eq_true (by rfl)) (by rfl) (by rfl) (by rfl)) _ (by rfl)) (known_old 15 _ (of_decide_eq_true (by rfl)) (by rfl)) (fun _ hs => hs.2.1)
    · exact coreG_bin _ _ _ _ _ _ _ _ _ _ _ _ _ (by rfl) (by rfl) (wants_core 25 122 25 _ _ _ (by rfl) (by rfl) (by rfl) (known_core 25 122 _ _ (of_decide_eq_true (by rfl)) (by rfl) (by rfl) (by rfl)) _ (by rfl)) (known_core 26 123 _ _ (of_decide_eq_true (by rfl)) (by rfl) (by rfl) (by rfl)) (known_core 27 124 _ _ (of_decide_eq_true (by rfl)) (by rfl) (by rfl) (by rfl)) (eql_run true _ _ _ _ _ _ _ _ _ _ _ _ _ _ _ (eqY p))
    · exact coreG_pick _ _ _ _ _ _ _ _ _ _ _ _ (by rfl) (by rfl) (wants_none) (known_core 25 122 _ _ (of_decide_eq_true (by rfl)) (by rfl) (by rfl) (by rfl)) (known_core 28 125 _ _ (of_decide_eq_true (by rfl)) (by rfl) (by rfl) (by rfl)) (known_const _) (by rfl)
    · exact coreG_move _ _ _ _ _ _ _ (by rfl) (by rfl) (wants_none) (known_core 29 126 _ _ (of_decide_eq_true (by rfl)) (by rfl) (by rfl) (by rfl))
    · exact coreG_loadP _ _ _ _ _ _ gq _ _ _ _ (by rfl) (by rfl) (wants_core 30 127 30 _ _ _ (by rfl) (by rfl) (by rfl) (known_core 30 127 _ _ (of_decide_eq_true (by rfl)) (by rfl) (by rfl) (by rfl)) _ (by rfl)) (known_old 13 _ (of_decide_eq_true (by rfl)) (by rfl)) (fun _ hs => hs.2.2.1)
    · exact coreG_loadP _ _ _ _ _ _ gy _ _ _ _ (by rfl) (by rfl) (wants_core 30 127 30 _ _ _ (by rfl) (by rfl) (by rfl) (known_core 30 127 _ _ (of_decide_eq_true (by rfl)) (by rfl) (by rfl) (by rfl)) _ (by rfl)) (known_old 17 _ (of_decide_eq_true (by rfl)) (by rfl)) (fun _ hs => hs.2.2.2.1)
    · exact coreG_bin _ _ _ _ _ _ _ _ _ _ _ _ _ (by rfl) (by rfl) (wants_core 30 127 30 _ _ _ (by rfl) (by rfl) (by rfl) (known_core 30 127 _ _ (of_decide_eq_true (by rfl)) (by rfl) (by rfl) (by rfl)) _ (by rfl)) (known_core 31 128 _ _ (of_decide_eq_true (by rfl)) (by rfl) (by rfl) (by rfl)) (known_core 32 129 _ _ (of_decide_eq_true (by rfl)) (by rfl) (by rfl) (by rfl)) (eql_run true _ _ _ _ _ _ _ _ _ _ _ _ _ _ _ (eqY q))
    · exact coreG_pick _ _ _ _ _ _ _ _ _ _ _ _ (by rfl) (by rfl) (wants_none) (known_core 30 127 _ _ (of_decide_eq_true (by rfl)) (by rfl) (by rfl) (by rfl)) (known_core 33 130 _ _ (of_decide_eq_true (by rfl)) (by rfl) (by rfl) (by rfl)) (known_const _) (by rfl)
    · exact coreG_move _ _ _ _ _ _ _ (by rfl) (by rfl) (wants_none) (known_core 34 131 _ _ (of_decide_eq_true (by rfl)) (by rfl) (by rfl) (by rfl))
    · exact coreG_loadP _ _ _ _ _ _ gk _ _ _ _ (by rfl) (by rfl) (wants_core 35 132 35 _ _ _ (by rfl) (by rfl) (by rfl) (known_core 35 132 _ _ (of_decide_eq_true (by rfl)) (by rfl) (by rfl) (by rfl)) _ (by rfl)) (known_old 21 _ (of_decide_eq_true (by rfl)) (by rfl)) (fun _ hs => hs.2.2.2.2.1)
    · exact coreG_loadP _ _ _ _ _ _ ga _ _ _ _ (by rfl) (by rfl) (wants_core 35 132 35 _ _ _ (by rfl) (by rfl) (by rfl) (known_core 35 132 _ _ (of_decide_eq_true (by rfl)) (by rfl) (by rfl) (by rfl)) _ (by rfl)) (known_old 3 _ (of_decide_eq_true (by rfl)) (by rfl)) (fun _ hs => hs.2.2.2.2.2.1)
    · exact coreG_loadP _ _ _ _ _ _ gm _ _ _ _ (by rfl) (by rfl) (wants_core 35 132 35 _ _ _ (by rfl) (by rfl) (by rfl) (known_core 35 132 _ _ (of_decide_eq_true (by rfl)) (by rfl) (by rfl) (by rfl)) _ (by rfl)) (known_old 5 _ (of_decide_eq_true (by rfl)) (by rfl)) (fun _ hs => hs.2.2.2.2.2.2)
    · exact core_pureAs _ (by rfl)
    · exact coreG_bin _ _ _ _ _ _ _ _ _ _ _ _ _ (by rfl) (by rfl) (wants_core 35 132 35 _ _ _ (by rfl) (by rfl) (by rfl) (known_core 35 132 _ _ (of_decide_eq_true (by rfl)) (by rfl) (by rfl) (by rfl)) _ (by rfl)) (known_core 36 133 _ _ (of_decide_eq_true (by rfl)) (by rfl) (by rfl) (by rfl)) (known_core 39 136 _ _ (of_decide_eq_true (by rfl)) (by rfl) (by rfl) (by rfl)) (eql_run true _ _ _ _ _ _ _ _ _ _ _ _ _ _ _ (eqY a))
    · exact coreG_pick _ _ _ _ _ _ _ _ _ _ _ _ (by rfl) (by rfl) (wants_none) (known_core 35 132 _ _ (of_decide_eq_true (by rfl)) (by rfl) (by rfl) (by rfl)) (known_core 40 137 _ _ (of_decide_eq_true (by rfl)) (by rfl) (by rfl) (by rfl)) (known_const _) (by rfl)
  · refine all_cons ?_ (all_cons ?_ (all_cons ?_ (all_cons ?_ (all_cons ?_ (all_cons ?_ (all_cons ?_ (all_cons ?_ (all_cons ?_ (all_cons ?_ (all_cons ?_ (all_cons ?_ (all_cons ?_ (all_cons ?_ (all_cons ?_ (all_cons ?_ (all_cons ?_ (all_cons ?_ (all_cons ?_ (all_cons ?_ (all_cons ?_ (all_cons ?_ (all_cons ?_ (all_cons ?_ (all_cons ?_ (all_cons ?_ (all_cons ?_ (all_cons ?_ (all_cons ?_ (all_cons ?_ (all_cons ?_ (all_cons ?_ (all_cons ?_ (all_cons ?_ (all_cons ?_ (all_cons ?_ (all_cons ?_ (all_cons ?_ (all_cons ?_ (all_cons ?_ (all_cons ?_ (all_cons ?_ (all_nil))))))))))))))))))))))))))))))))))))))))))
    · exact fun _ => coreG_call _ 29 _ _ [] _ _ _ _ _ _ _ (by rfl) Try.func29 (by kernel_rfl) (by rfl) (by rfl) (wants_none) .nil (alive4_any)
    · exact core_stepAs _ (by rfl)
    · exact core_stepAs _ (by rfl)
    · exact core_stepAs _ (by rfl)
    · exact core_stepAs _ (by rfl)
    · exact core_stepAs _ (by rfl)
    · exact core_stepAs _ (by rfl)
    · exact core_stepAs _ (by rfl)
    · exact core_stepAs _ (by rfl)
    · exact core_stepAs _ (by rfl)
    · exact core_stepAs _ (by rfl)
    · exact core_stepAs _ (by rfl)
    · exact core_stepAs _ (by rfl)
    · exact core_stepAs _ (by rfl)
    · exact core_stepAs _ (by rfl)
    · exact core_stepAs _ (by rfl)
    · exact core_stepAs _ (by rfl)
    · exact core_stepAs _ (by rfl)
    · exact core_stepAs _ (by rfl)
    · exact core_stepAs _ (by rfl)
    · exact core_stepAs _ (by rfl)
    · exact core_stepAs _ (by rfl)
    · exact core_stepAs _ (by rfl)
    · exact core_stepAs _ (by rfl)
    · exact core_stepAs _ (by rfl)
    · exact core_stepAs _ (by rfl)
    · exact core_stepAs _ (by rfl)
    · exact core_stepAs _ (by rfl)
    · exact core_stepAs _ (by rfl)
    · exact core_stepAs _ (by rfl)
    · exact core_stepAs _ (by rfl)
    · exact core_stepAs _ (by rfl)
    · exact core_stepAs _ (by rfl)
    · exact core_stepAs _ (by rfl)
    · exact core_stepAs _ (by rfl)
    · exact core_stepAs _ (by rfl)
    · exact core_stepAs _ (by rfl)
    · exact core_stepAs _ (by rfl)
    · exact core_stepAs _ (by rfl)
    · exact fun _ => coreG_call _ 30 _ _ [.tmp 134, .tmp 135] _ _ _ _ _ _ _ (by rfl) Try.func30 (by kernel_rfl) (by rfl) (by rfl) (wants_core 35 132 35 _ _ _ (by rfl) (by rfl) (by rfl) (known_core 35 132 _ _ (of_decide_eq_true (by rfl)) (by rfl) (by rfl) (by rfl)) _ (by rfl)) (.cons (known_core 37 134 _ _ (of_decide_eq_true (by rfl)) (by rfl) (by rfl) (by rfl)) (.cons (known_core 38 135 _ _ (of_decide_eq_true (by rfl)) (by rfl) (by rfl) (by rfl)) .nil)) (HB1.out)
    · exact core_stepAs _ (by rfl)
    · exact core_stepAs _ (by rfl)
  intro vs y14 hc
  have BZ := bel_tr BW.out hc.bel
  refine assign_one (i := 42) (.tmp 138) 6 _ _ _ (.bool true) (by kernel_rfl) (by rfl) (hc.at_ (of_decide_eq_true (by kernel_rfl)) (by rfl) 41 138 _ (.bool true) (by rfl) (by rfl) (by rfl)) (⟨Fp.out.on hc.bel, Fx.out.on hc.bel, Fq.out.on hc.bel, Fy.out.on hc.bel, Fk.out.on hc.bel, Fa.out.on hc.bel, Fm.out.on hc.bel⟩) ?_
  refine wpAnyH_done (by kernel_rfl) ?_ _
  refine NoPanic.normal ?_
  generalize hA : Act.put (over _ _ vs) (some 6) (.bool true) = A
  have hA0 : A.tmps.getD 6 undef = .bool true := by rw [← hA]; exact put_at _ _ _ (by rw [over_size]; exact Nat.le_of_ble_eq_true rfl)
  have hAd : A.defers = [] := by rw [← hA, put_defers, over_defers]
  clear hA hc
  go_wp2_with fail
  refine bodyPost_ret (v := .bool true) (by simp [results, Try.results6, go_sem] at hA0 ⊢; simp [hA0]) hAd ⟨rfl, BZ⟩

theorem whole_walk (A B M : Nat) (hA : A < 2 ^ 256) (hB : B < 2 ^ 256) (hM : M < 2 ^ 256) (w : World) : Calls Try.prog 6 #[num A, num B, num M] w fun e w' => e = .returned (.bool true) ∧ Below w.heap.size w w' := by
  by_cases h1 : 1 < M
  · have h0 : M ≠ 0 := by omega
    have lt : ∀ x, x % M < M := fun x => Nat.mod_lt _ (by omega)
    obtain ⟨L, H, hL, hH, e1, X1⟩ := mul_ex A B hA hB
    obtain ⟨p, hp, ep, X2⟩ := wide_ex L H M hL hH hM h0
    obtain ⟨S, mo, hS, hmo, e2, X3⟩ := add_ex A B hA hB
    obtain ⟨q, hq, eq, X5⟩ := wide_ex S mo M hS (by omega) hM h0
    have Y1 := mmul_yes (A % M) (B % M) M hM h1 (lt _) (lt _)
    rw [show A % M * (B % M) % M = p by rw [← Nat.mul_mod, ep]; unfold wide; rw [e1]; congr 1; omega] at Y1
    have Y2 := madd_yes (A % M) (B % M) M hM h1 (lt _) (lt _)
    rw [show (A % M + B % M) % M = q by rw [← Nat.add_mod, eq]; unfold wide; rw [e2]; congr 1; omega] at Y2
    have Y4 := madd_yes ((A % M + M - B % M) % M) (B % M) M hM h1 (lt _) (lt _)
    rw [show ((A % M + M - B % M) % M + B % M) % M = A % M by
      have := lt B
      rw [Nat.mod_add_mod, show A % M + M - B % M + B % M = A % M + M by omega, Nat.add_mod_right, Nat.mod_mod]] at Y4
    exact whole_some A B M 1 L H S mo p q (A % M) (B % M) _ _ (cmpN_pos h1) (fun w => ofM_any 1 (by decide) w) (fun w => cmp_any M 1 hM (by decide) w) X1 X2 X3 (fun w => ofM_any mo (by omega) w) X5 (belowM_any A M hA hM h0) (belowM_any B M hB hM h0) Y1 Y2 (msub_yes _ _ M hM h1 (lt _) (lt _)) Y4 w
  · exact whole_none A B M 1 _ (cmpN_le (by omega)) (fun w => ofM_any 1 (by decide) w) (fun w => cmp_any M 1 hM (by decide) w) w
end Go.Proofs.Ytmhmdbjjmmmgkaa
