/-
  The walk of ModsInverse: it answers true, and nothing that was there is changed.
-/
import Derived.Test.YtmhmdbjjmmmgkaaAlive4
namespace Go.Proofs.Ytmhmdbjjmmmgkaa
open Go.RowKit
set_option linter.unusedSimpArgs false
set_option linter.unusedVariables false
attribute [local go_sem ↓] Go.wp_at_zero Go.wp_at_succ

set_option maxRecDepth 100000 in
set_option maxHeartbeats 8000000 in
theorem inv_none (X Y M Z : Nat) (k : Int)
    (hk : k ≤ 0)
    (O : ∀ w, Calls Try.prog 28 #[.int .u64 1] w fun e w' => e = .returned (num Z) ∧ Below w.heap.size w w')
    (K : ∀ w, Calls Try.prog 27 #[num M, num Z] w fun e w' => e = .returned (.int .i64 k) ∧ Below w.heap.size w w')
    (w : World) : Calls Try.prog 8 #[.agg #[.int .u64 (wd X 0 : Nat), .int .u64 (wd X 1 : Nat), .int .u64 (wd X 2 : Nat), .int .u64 (wd X 3 : Nat), .int .u64 (wd Y 0 : Nat), .int .u64 (wd Y 1 : Nat), .int .u64 (wd Y 2 : Nat), .int .u64 (wd Y 3 : Nat)], num M] w fun e w' => e = .returned (.bool true) ∧ Below w.heap.size w w' := by
  have HO := Lib.hid O
  have HK := Lib.hid K
  clear O K
  go_enter Try.func8, Try.ntmps8
  go_wp2_with fail
  have BW := Lib.hid (Below.refl w.heap.size w)
  have Narr : At ((w.alloc (.cells #[.int .u64 (wd X 0 : Nat), .int .u64 (wd X 1 : Nat), .int .u64 (wd X 2 : Nat), .int .u64 (wd X 3 : Nat), .int .u64 (wd Y 0 : Nat), .int .u64 (wd Y 1 : Nat), .int .u64 (wd Y 2 : Nat), .int .u64 (wd Y 3 : Nat)] 43)).alloc (.cells #[.int .u64 (wd M 0 : Nat), .int .u64 (wd M 1 : Nat), .int .u64 (wd M 2 : Nat), .int .u64 (wd M 3 : Nat)] 24)) (w.heap.size) 43 #[.int .u64 (wd X 0 : Nat), .int .u64 (wd X 1 : Nat), .int .u64 (wd X 2 : Nat), .int .u64 (wd X 3 : Nat), .int .u64 (wd Y 0 : Nat), .int .u64 (wd Y 1 : Nat), .int .u64 (wd Y 2 : Nat), .int .u64 (wd Y 3 : Nat)] := (At.at_ _ _ _ _ (by simp)).alloc _
  have Nm : At ((w.alloc (.cells #[.int .u64 (wd X 0 : Nat), .int .u64 (wd X 1 : Nat), .int .u64 (wd X 2 : Nat), .int .u64 (wd X 3 : Nat), .int .u64 (wd Y 0 : Nat), .int .u64 (wd Y 1 : Nat), .int .u64 (wd Y 2 : Nat), .int .u64 (wd Y 3 : Nat)] 43)).alloc (.cells #[.int .u64 (wd M 0 : Nat), .int .u64 (wd M 1 : Nat), .int .u64 (wd M 2 : Nat), .int .u64 (wd M 3 : Nat)] 24)) (w.heap.size + 1) 24 #[.int .u64 (wd M 0 : Nat), .int .u64 (wd M 1 : Nat), .int .u64 (wd M 2 : Nat), .int .u64 (wd M 3 : Nat)] := At.at_ _ _ _ _ (by simp)
  have NB : Below w.heap.size w ((w.alloc (.cells #[.int .u64 (wd X 0 : Nat), .int .u64 (wd X 1 : Nat), .int .u64 (wd X 2 : Nat), .int .u64 (wd X 3 : Nat), .int .u64 (wd Y 0 : Nat), .int .u64 (wd Y 1 : Nat), .int .u64 (wd Y 2 : Nat), .int .u64 (wd Y 3 : Nat)] 43)).alloc (.cells #[.int .u64 (wd M 0 : Nat), .int .u64 (wd M 1 : Nat), .int .u64 (wd M 2 : Nat), .int .u64 (wd M 3 : Nat)] 24)) := gr_alloc (gr_alloc BW.out _) _
  clear BW 
  generalize ((w.alloc (.cells #[.int .u64 (wd X 0 : Nat), .int .u64 (wd X 1 : Nat), .int .u64 (wd X 2 : Nat), .int .u64 (wd X 3 : Nat), .int .u64 (wd Y 0 : Nat), .int .u64 (wd Y 1 : Nat), .int .u64 (wd Y 2 : Nat), .int .u64 (wd Y 3 : Nat)] 43)).alloc (.cells #[.int .u64 (wd M 0 : Nat), .int .u64 (wd M 1 : Nat), .int .u64 (wd M 2 : Nat), .int .u64 (wd M 3 : Nat)] 24)) = W1 at *
  generalize w.heap.size + 1 = gm at *
  obtain ⟨garr, hg0⟩ : ∃ g, g = w.heap.size := ⟨_, rfl⟩
  rw [← hg0] at Narr ⊢
  clear hg0
  have Farr := Lib.hid Narr
  have Fm := Lib.hid Nm
  have BW := Lib.hid NB
  clear NB Narr Nm
  try simp only [List.append_eq, List.cons_append, List.nil_append]
  refine wp_region_noPanic ?_
  refine wp_region_held_drew (S := fun w' => At w' gm 24 #[.int .u64 (wd M 0 : Nat), .int .u64 (wd M 1 : Nat), .int .u64 (wd M 2 : Nat), .int .u64 (wd M 3 : Nat)]) (by kernel_rfl) (Fm.out.drew) (fun _ => ?_)
  refine wpAnyH_cores (fuel := 0) (⟨0, 21, [], Kind.val (.agg #[.int .u64 (wd M 0 : Nat), .int .u64 (wd M 1 : Nat), .int .u64 (wd M 2 : Nat), .int .u64 (wd M 3 : Nat)]), true⟩ :: ⟨1, 22, [0], Kind.val (.agg #[.int .u64 (wd Z 0 : Nat), .int .u64 (wd Z 1 : Nat), .int .u64 (wd Z 2 : Nat), .int .u64 (wd Z 3 : Nat)]), false⟩ :: ⟨2, 23, [0, 1], Kind.val (.int .i64 k), false⟩ :: ⟨3, 24, [2], Kind.val (.bool true), true⟩ :: []) _ _ W1 _ ?_ ?_ ?_ ?_ ?_ ?_ ?_ ?_ ?_ ?_ ?_
  · rfl
  · kernel_rfl
  · exact of_decide_eq_true (by kernel_rfl)
  · exact all_cons ⟨_, by rfl, by rfl⟩ (all_cons ⟨_, by rfl, by rfl⟩ (all_cons ⟨_, by rfl, by rfl⟩ (all_cons ⟨_, by rfl, by rfl⟩ (all_nil))))
  · exact fun _ hb => Fm.out.on hb
  · exact (Below.refl _ _).drew
  · kernel_rfl
  · exact fun _ _ _ _ _ h => h
  · refine all_cons ?_ (all_cons ?_ (all_cons ?_ (all_cons ?_ (all_nil))))
    · exact coreG_loadP _ _ _ _ _ _ gm _ _ _ _ (by rfl) (by rfl) (wants_none) (known_old 3 _ (of_decide_eq_true (by rfl)) (by rfl)) (fun _ hs => hs)
    · exact core_pureAs _ (by rfl)
    · exact core_pureAs _ (by rfl)
    · exact coreG_bin _ _ _ _ _ _ _ _ _ _ _ _ _ (by rfl) (by rfl) (wants_none) (known_core 2 23 _ _ (of_decide_eq_true (by rfl)) (by rfl) (by rfl) (by rfl)) (known_const _) ((fun ρ w hx hy => by simp only [execOp, hx, hy]; simp [go_sem]; exact hk))
  · refine all_cons ?_ (all_cons ?_ (all_cons ?_ (all_cons ?_ (all_nil))))
    · exact core_stepAs _ (by rfl)
    · exact fun _ => coreG_call _ 28 _ _ [.const (.int .u64 1)] _ _ _ _ _ _ _ (by rfl) Try.func28 (by kernel_rfl) (by rfl) (by rfl) (wants_none) (.cons (known_const _) .nil) (HO.out)
    · exact fun _ => coreG_call _ 27 _ _ [.tmp 21, .tmp 22] _ _ _ _ _ _ _ (by rfl) Try.func27 (by kernel_rfl) (by rfl) (by rfl) (wants_none) (.cons (known_core 0 21 _ _ (of_decide_eq_true (by rfl)) (by rfl) (by rfl) (by rfl)) (.cons (known_core 1 22 _ _ (of_decide_eq_true (by rfl)) (by rfl) (by rfl) (by rfl)) .nil)) (HK.out)
    · exact core_stepAs _ (by rfl)
  intro vs y2 hc
  obtain ⟨vv0, vv1, vv2, vv3, rfl⟩ := len4 vs hc.lv
  have qq0 : vv0 = .agg #[.int .u64 (wd M 0 : Nat), .int .u64 (wd M 1 : Nat), .int .u64 (wd M 2 : Nat), .int .u64 (wd M 3 : Nat)] := by obtain ⟨xx, hx, hy⟩ := hc.ok 0 _ rfl rfl; exact (Option.some.inj (show some vv0 = some xx from hx)).trans hy
  have qq1 : vv1 = .agg #[.int .u64 (wd Z 0 : Nat), .int .u64 (wd Z 1 : Nat), .int .u64 (wd Z 2 : Nat), .int .u64 (wd Z 3 : Nat)] := by obtain ⟨xx, hx, hy⟩ := hc.ok 1 _ rfl rfl; exact (Option.some.inj (show some vv1 = some xx from hx)).trans hy
  have qq2 : vv2 = .int .i64 k := by obtain ⟨xx, hx, hy⟩ := hc.ok 2 _ rfl rfl; exact (Option.some.inj (show some vv2 = some xx from hx)).trans hy
  have qq3 : vv3 = .bool true := by obtain ⟨xx, hx, hy⟩ := hc.ok 3 _ rfl rfl; exact (Option.some.inj (show some vv3 = some xx from hx)).trans hy
  have BZ := hc.bel
  clear hc
  have Narr := Farr.out.on BZ
  have Nm := Fm.out.on BZ
  have NB := bel_tr BW.out BZ
  clear BW BZ Farr Fm
  subst qq0 qq1 qq2 qq3
  simp only [List.map_cons, List.map_nil, over, Act.put, List.setIfInBounds_toArray, List.set_cons_zero, List.set_cons_succ]
  refine wpAnyH_done (by kernel_rfl) ?_ _
  refine NoPanic.normal ?_
  have Farr := Lib.hid Narr
  have Fm := Lib.hid Nm
  have BW := Lib.hid NB
  clear NB Narr Nm
  go_wp2_with fail
  refine (alive4_any _).mono ?_
  rintro e v3 ⟨rfl, z3⟩
  have Narr := Lib.hid (Farr.out.on z3)
  have Nm := Lib.hid (Fm.out.on z3)
  have NB := Lib.hid (bel_tr BW.out z3)
  clear BW z3 Farr Fm
  have Farr := Narr
  have Fm := Nm
  have BW := NB
  clear NB Narr Nm
  go_wp2_with fail
  go_ret
  exact ⟨rfl, BW.out⟩

set_option maxRecDepth 100000 in
set_option maxHeartbeats 8000000 in
theorem inv_no (X Y M Z N0 a b x y z g ab : Nat) (k ef : Int)
    (hk : 0 < k)
    (O : ∀ w, Calls Try.prog 28 #[.int .u64 1] w fun e w' => e = .returned (num Z) ∧ Below w.heap.size w w')
    (K : ∀ w, Calls Try.prog 27 #[num M, num Z] w fun e w' => e = .returned (.int .i64 k) ∧ Below w.heap.size w w')
    (B1 : ∀ w, Calls Try.prog 30 #[num X, num M] w fun e w' => e = .returned (num a) ∧ Below w.heap.size w w')
    (B2 : ∀ w, Calls Try.prog 30 #[num Y, num M] w fun e w' => e = .returned (num b) ∧ Below w.heap.size w w')
    (I1 : ∀ w, Calls Try.prog 21 #[num a, num M] w fun e w' => e = .returned (.tuple #[num N0, .int .i64 7]) ∧ Below w.heap.size w w')
    (I2 : ∀ w, Calls Try.prog 21 #[num b, num M] w fun e w' => e = .returned (.tuple #[num y, .int .i64 ef]) ∧ Below w.heap.size w w')
    (CM : ∀ w, Calls Try.prog 15 #[num a, num M] w fun e w' => e = .returned (num g) ∧ Below w.heap.size w w')
    (M1 : ∀ w, Calls Try.prog 19 #[num a, num b, num M] w fun e w' => e = .returned (.tuple #[num ab, .int .i64 0]) ∧ Below w.heap.size w w')
    (I3 : ∀ w, Calls Try.prog 21 #[num ab, num M] w fun e w' => e = .returned (.tuple #[num N0, .int .i64 7]) ∧ Below w.heap.size w w')
    (N : ∀ w, Calls Try.prog 28 #[.int .u64 0] w fun e w' => e = .returned (num N0) ∧ Below w.heap.size w w')
    (EG : ∀ w : World, (Op.equalIn 10000 24 (num g) (num Z)).run Try.prog w = .ok false w)
    (w : World) : Calls Try.prog 8 #[.agg #[.int .u64 (wd X 0 : Nat), .int .u64 (wd X 1 : Nat), .int .u64 (wd X 2 : Nat), .int .u64 (wd X 3 : Nat), .int .u64 (wd Y 0 : Nat), .int .u64 (wd Y 1 : Nat), .int .u64 (wd Y 2 : Nat), .int .u64 (wd Y 3 : Nat)], num M] w fun e w' => e = .returned (.bool true) ∧ Below w.heap.size w w' := by
  have HO := Lib.hid O
  have HK := Lib.hid K
  have HB1 := Lib.hid B1
  have HB2 := Lib.hid B2
  have HI1 := Lib.hid I1
  have HI2 := Lib.hid I2
  have HCM := Lib.hid CM
  have HM1 := Lib.hid M1
  have HI3 := Lib.hid I3
  have HN := Lib.hid N
  have HEG := Lib.hid EG
  clear O K B1 B2 I1 I2 CM M1 I3 N EG
  go_enter Try.func8, Try.ntmps8
  go_wp2_with fail
  have BW := Lib.hid (Below.refl w.heap.size w)
  have Narr : At ((w.alloc (.cells #[.int .u64 (wd X 0 : Nat), .int .u64 (wd X 1 : Nat), .int .u64 (wd X 2 : Nat), .int .u64 (wd X 3 : Nat), .int .u64 (wd Y 0 : Nat), .int .u64 (wd Y 1 : Nat), .int .u64 (wd Y 2 : Nat), .int .u64 (wd Y 3 : Nat)] 43)).alloc (.cells #[.int .u64 (wd M 0 : Nat), .int .u64 (wd M 1 : Nat), .int .u64 (wd M 2 : Nat), .int .u64 (wd M 3 : Nat)] 24)) (w.heap.size) 43 #[.int .u64 (wd X 0 : Nat), .int .u64 (wd X 1 : Nat), .int .u64 (wd X 2 : Nat), .int .u64 (wd X 3 : Nat), .int .u64 (wd Y 0 : Nat), .int .u64 (wd Y 1 : Nat), .int .u64 (wd Y 2 : Nat), .int .u64 (wd Y 3 : Nat)] := (At.at_ _ _ _ _ (by simp)).alloc _
  have Nm : At ((w.alloc (.cells #[.int .u64 (wd X 0 : Nat), .int .u64 (wd X 1 : Nat), .int .u64 (wd X 2 : Nat), .int .u64 (wd X 3 : Nat), .int .u64 (wd Y 0 : Nat), .int .u64 (wd Y 1 : Nat), .int .u64 (wd Y 2 : Nat), .int .u64 (wd Y 3 : Nat)] 43)).alloc (.cells #[.int .u64 (wd M 0 : Nat), .int .u64 (wd M 1 : Nat), .int .u64 (wd M 2 : Nat), .int .u64 (wd M 3 : Nat)] 24)) (w.heap.size + 1) 24 #[.int .u64 (wd M 0 : Nat), .int .u64 (wd M 1 : Nat), .int .u64 (wd M 2 : Nat), .int .u64 (wd M 3 : Nat)] := At.at_ _ _ _ _ (by simp)
  have NB : Below w.heap.size w ((w.alloc (.cells #[.int .u64 (wd X 0 : Nat), .int .u64 (wd X 1 : Nat), .int .u64 (wd X 2 : Nat), .int .u64 (wd X 3 : Nat), .int .u64 (wd Y 0 : Nat), .int .u64 (wd Y 1 : Nat), .int .u64 (wd Y 2 : Nat), .int .u64 (wd Y 3 : Nat)] 43)).alloc (.cells #[.int .u64 (wd M 0 : Nat), .int .u64 (wd M 1 : Nat), .int .u64 (wd M 2 : Nat), .int .u64 (wd M 3 : Nat)] 24)) := gr_alloc (gr_alloc BW.out _) _
  clear BW 
  generalize ((w.alloc (.cells #[.int .u64 (wd X 0 : Nat), .int .u64 (wd X 1 : Nat), .int .u64 (wd X 2 : Nat), .int .u64 (wd X 3 : Nat), .int .u64 (wd Y 0 : Nat), .int .u64 (wd Y 1 : Nat), .int .u64 (wd Y 2 : Nat), .int .u64 (wd Y 3 : Nat)] 43)).alloc (.cells #[.int .u64 (wd M 0 : Nat), .int .u64 (wd M 1 : Nat), .int .u64 (wd M 2 : Nat), .int .u64 (wd M 3 : Nat)] 24)) = W1 at *
  generalize w.heap.size + 1 = gm at *
  obtain ⟨garr, hg0⟩ : ∃ g, g = w.heap.size := ⟨_, rfl⟩
  rw [← hg0] at Narr ⊢
  clear hg0
  have Farr := Lib.hid Narr
  have Fm := Lib.hid Nm
  have BW := Lib.hid NB
  clear NB Narr Nm
  try simp only [List.append_eq, List.cons_append, List.nil_append]
  refine wp_region_noPanic ?_
  refine wp_region_held_drew (S := fun w' => At w' gm 24 #[.int .u64 (wd M 0 : Nat), .int .u64 (wd M 1 : Nat), .int .u64 (wd M 2 : Nat), .int .u64 (wd M 3 : Nat)]) (by kernel_rfl) (Fm.out.drew) (fun _ => ?_)
  refine wpAnyH_cores (fuel := 0) (⟨0, 21, [], Kind.val (.agg #[.int .u64 (wd M 0 : Nat), .int .u64 (wd M 1 : Nat), .int .u64 (wd M 2 : Nat), .int .u64 (wd M 3 : Nat)]), true⟩ :: ⟨1, 22, [0], Kind.val (.agg #[.int .u64 (wd Z 0 : Nat), .int .u64 (wd Z 1 : Nat), .int .u64 (wd Z 2 : Nat), .int .u64 (wd Z 3 : Nat)]), false⟩ :: ⟨2, 23, [0, 1], Kind.val (.int .i64 k), false⟩ :: ⟨3, 24, [2], Kind.val (.bool false), true⟩ :: []) _ _ W1 _ ?_ ?_ ?_ ?_ ?_ ?_ ?_ ?_ ?_ ?_ ?_
  · rfl
  · kernel_rfl
  · exact of_decide_eq_true (by kernel_rfl)
  · exact all_cons ⟨_, by rfl, by rfl⟩ (all_cons ⟨_, by rfl, by rfl⟩ (all_cons ⟨_, by rfl, by rfl⟩ (all_cons ⟨_, by rfl, by rfl⟩ (all_nil))))
  · exact fun _ hb => Fm.out.on hb
  · exact (Below.refl _ _).drew
  · kernel_rfl
  · exact fun _ _ _ _ _ h => h
  · refine all_cons ?_ (all_cons ?_ (all_cons ?_ (all_cons ?_ (all_nil))))
    · exact coreG_loadP _ _ _ _ _ _ gm _ _ _ _ (by rfl) (by rfl) (wants_none) (known_old 3 _ (of_decide_eq_true (by rfl)) (by rfl)) (fun _ hs => hs)
    · exact core_pureAs _ (by rfl)
    · exact core_pureAs _ (by rfl)
    · exact coreG_bin _ _ _ _ _ _ _ _ _ _ _ _ _ (by rfl) (by rfl) (wants_none) (known_core 2 23 _ _ (of_decide_eq_true (by rfl)) (by rfl) (by rfl) (by rfl)) (known_const _) ((fun ρ w hx hy => by simp only [execOp, hx, hy]; simp [go_sem]; exact hk))
  · refine all_cons ?_ (all_cons ?_ (all_cons ?_ (all_cons ?_ (all_nil))))
    · exact core_stepAs _ (by rfl)
    · exact fun _ => coreG_call _ 28 _ _ [.const (.int .u64 1)] _ _ _ _ _ _ _ (by rfl) Try.func28 (by kernel_rfl) (by rfl) (by rfl) (wants_none) (.cons (known_const _) .nil) (HO.out)
    · exact fun _ => coreG_call _ 27 _ _ [.tmp 21, .tmp 22] _ _ _ _ _ _ _ (by rfl) Try.func27 (by kernel_rfl) (by rfl) (by rfl) (wants_none) (.cons (known_core 0 21 _ _ (of_decide_eq_true (by rfl)) (by rfl) (by rfl) (by rfl)) (.cons (known_core 1 22 _ _ (of_decide_eq_true (by rfl)) (by rfl) (by rfl) (by rfl)) .nil)) (HK.out)
    · exact core_stepAs _ (by rfl)
  intro vs y2 hc
  obtain ⟨vv0, vv1, vv2, vv3, rfl⟩ := len4 vs hc.lv
  have qq0 : vv0 = .agg #[.int .u64 (wd M 0 : Nat), .int .u64 (wd M 1 : Nat), .int .u64 (wd M 2 : Nat), .int .u64 (wd M 3 : Nat)] := by obtain ⟨xx, hx, hy⟩ := hc.ok 0 _ rfl rfl; exact (Option.some.inj (show some vv0 = some xx from hx)).trans hy
  have qq1 : vv1 = .agg #[.int .u64 (wd Z 0 : Nat), .int .u64 (wd Z 1 : Nat), .int .u64 (wd Z 2 : Nat), .int .u64 (wd Z 3 : Nat)] := by obtain ⟨xx, hx, hy⟩ := hc.ok 1 _ rfl rfl; exact (Option.some.inj (show some vv1 = some xx from hx)).trans hy
  have qq2 : vv2 = .int .i64 k := by obtain ⟨xx, hx, hy⟩ := hc.ok 2 _ rfl rfl; exact (Option.some.inj (show some vv2 = some xx from hx)).trans hy
  have qq3 : vv3 = .bool false := by obtain ⟨xx, hx, hy⟩ := hc.ok 3 _ rfl rfl; exact (Option.some.inj (show some vv3 = some xx from hx)).trans hy
  have BZ := hc.bel
  clear hc
  have Narr := Farr.out.on BZ
  have Nm := Fm.out.on BZ
  have NB := bel_tr BW.out BZ
  clear BW BZ Farr Fm
  subst qq0 qq1 qq2 qq3
  simp only [List.map_cons, List.map_nil, over, Act.put, List.setIfInBounds_toArray, List.set_cons_zero, List.set_cons_succ]
  refine wpAnyH_done (by kernel_rfl) ?_ _
  refine NoPanic.normal ?_
  have Farr := Lib.hid Narr
  have Fm := Lib.hid Nm
  have BW := Lib.hid NB
  clear NB Narr Nm
  have Larr := Farr.out.lt
  have carr0 : y2.cell? ⟨garr, 0, none⟩ = some (.int .u64 (wd X 0 : Nat)) := Farr.out.cell 0
  have carr1 : y2.cell? ⟨garr, 1, none⟩ = some (.int .u64 (wd X 1 : Nat)) := Farr.out.cell 1
  have carr2 : y2.cell? ⟨garr, 2, none⟩ = some (.int .u64 (wd X 2 : Nat)) := Farr.out.cell 2
  have carr3 : y2.cell? ⟨garr, 3, none⟩ = some (.int .u64 (wd X 3 : Nat)) := Farr.out.cell 3
  have carr4 : y2.cell? ⟨garr, 4, none⟩ = some (.int .u64 (wd Y 0 : Nat)) := Farr.out.cell 4
  have carr5 : y2.cell? ⟨garr, 5, none⟩ = some (.int .u64 (wd Y 1 : Nat)) := Farr.out.cell 5
  have carr6 : y2.cell? ⟨garr, 6, none⟩ = some (.int .u64 (wd Y 2 : Nat)) := Farr.out.cell 6
  have carr7 : y2.cell? ⟨garr, 7, none⟩ = some (.int .u64 (wd Y 3 : Nat)) := Farr.out.cell 7
  have Lm := Fm.out.lt
  have cm0 : y2.cell? ⟨gm, 0, none⟩ = some (.int .u64 (wd M 0 : Nat)) := Fm.out.cell 0
  have cm1 : y2.cell? ⟨gm, 1, none⟩ = some (.int .u64 (wd M 1 : Nat)) := Fm.out.cell 1
  have cm2 : y2.cell? ⟨gm, 2, none⟩ = some (.int .u64 (wd M 2 : Nat)) := Fm.out.cell 2
  have cm3 : y2.cell? ⟨gm, 3, none⟩ = some (.int .u64 (wd M 3 : Nat)) := Fm.out.cell 3
  go_wp2_with fail
  clear Larr carr0 carr1 carr2 carr3 carr4 carr5 carr6 carr7 Lm cm0 cm1 cm2 cm3
  refine (HB1.out _).mono ?_
  rintro e v3 ⟨rfl, z3⟩
  have Narr := Lib.hid (Farr.out.on z3)
  have Nm := Lib.hid (Fm.out.on z3)
  have NB := Lib.hid (bel_tr BW.out z3)
  clear BW z3 Farr Fm
  have Farr := Narr
  have Fm := Nm
  have BW := NB
  clear NB Narr Nm
  have Larr := Farr.out.lt
  have carr0 : v3.cell? ⟨garr, 0, none⟩ = some (.int .u64 (wd X 0 : Nat)) := Farr.out.cell 0
  have carr1 : v3.cell? ⟨garr, 1, none⟩ = some (.int .u64 (wd X 1 : Nat)) := Farr.out.cell 1
  have carr2 : v3.cell? ⟨garr, 2, none⟩ = some (.int .u64 (wd X 2 : Nat)) := Farr.out.cell 2
  have carr3 : v3.cell? ⟨garr, 3, none⟩ = some (.int .u64 (wd X 3 : Nat)) := Farr.out.cell 3
  have carr4 : v3.cell? ⟨garr, 4, none⟩ = some (.int .u64 (wd Y 0 : Nat)) := Farr.out.cell 4
  have carr5 : v3.cell? ⟨garr, 5, none⟩ = some (.int .u64 (wd Y 1 : Nat)) := Farr.out.cell 5
  have carr6 : v3.cell? ⟨garr, 6, none⟩ = some (.int .u64 (wd Y 2 : Nat)) := Farr.out.cell 6
  have carr7 : v3.cell? ⟨garr, 7, none⟩ = some (.int .u64 (wd Y 3 : Nat)) := Farr.out.cell 7
  have Lm := Fm.out.lt
  have cm0 : v3.cell? ⟨gm, 0, none⟩ = some (.int .u64 (wd M 0 : Nat)) := Fm.out.cell 0
  have cm1 : v3.cell? ⟨gm, 1, none⟩ = some (.int .u64 (wd M 1 : Nat)) := Fm.out.cell 1
  have cm2 : v3.cell? ⟨gm, 2, none⟩ = some (.int .u64 (wd M 2 : Nat)) := Fm.out.cell 2
  have cm3 : v3.cell? ⟨gm, 3, none⟩ = some (.int .u64 (wd M 3 : Nat)) := Fm.out.cell 3
  go_wp2_with fail
  clear Larr carr0 carr1 carr2 carr3 carr4 carr5 carr6 carr7 Lm cm0 cm1 cm2 cm3
  have Na : At (v3.alloc (.cells #[.int .u64 (wd a 0 : Nat), .int .u64 (wd a 1 : Nat), .int .u64 (wd a 2 : Nat), .int .u64 (wd a 3 : Nat)] 24)) (v3.heap.size) 24 #[.int .u64 (wd a 0 : Nat), .int .u64 (wd a 1 : Nat), .int .u64 (wd a 2 : Nat), .int .u64 (wd a 3 : Nat)] := At.at_ _ _ _ _ (by simp)
  have Narr : At (v3.alloc (.cells #[.int .u64 (wd a 0 : Nat), .int .u64 (wd a 1 : Nat), .int .u64 (wd a 2 : Nat), .int .u64 (wd a 3 : Nat)] 24)) garr 43 #[.int .u64 (wd X 0 : Nat), .int .u64 (wd X 1 : Nat), .int .u64 (wd X 2 : Nat), .int .u64 (wd X 3 : Nat), .int .u64 (wd Y 0 : Nat), .int .u64 (wd Y 1 : Nat), .int .u64 (wd Y 2 : Nat), .int .u64 (wd Y 3 : Nat)] := Farr.out.alloc _
  have Nm : At (v3.alloc (.cells #[.int .u64 (wd a 0 : Nat), .int .u64 (wd a 1 : Nat), .int .u64 (wd a 2 : Nat), .int .u64 (wd a 3 : Nat)] 24)) gm 24 #[.int .u64 (wd M 0 : Nat), .int .u64 (wd M 1 : Nat), .int .u64 (wd M 2 : Nat), .int .u64 (wd M 3 : Nat)] := Fm.out.alloc _
  have NB : Below w.heap.size w (v3.alloc (.cells #[.int .u64 (wd a 0 : Nat), .int .u64 (wd a 1 : Nat), .int .u64 (wd a 2 : Nat), .int .u64 (wd a 3 : Nat)] 24)) := gr_alloc BW.out _
  clear BW Farr Fm
  generalize (v3.alloc (.cells #[.int .u64 (wd a 0 : Nat), .int .u64 (wd a 1 : Nat), .int .u64 (wd a 2 : Nat), .int .u64 (wd a 3 : Nat)] 24)) = W4 at *
  generalize v3.heap.size = ga at *
  have Farr := Lib.hid Narr
  have Fm := Lib.hid Nm
  have Fa := Lib.hid Na
  have BW := Lib.hid NB
  clear NB Narr Nm Na
  refine (HB2.out _).mono ?_
  rintro e v5 ⟨rfl, z5⟩
  have Narr := Lib.hid (Farr.out.on z5)
  have Nm := Lib.hid (Fm.out.on z5)
  have Na := Lib.hid (Fa.out.on z5)
  have NB := Lib.hid (bel_tr BW.out z5)
  clear BW z5 Farr Fm Fa
  have Farr := Narr
  have Fm := Nm
  have Fa := Na
  have BW := NB
  clear NB Narr Nm Na
  have La := Fa.out.lt
  have ca0 : v5.cell? ⟨ga, 0, none⟩ = some (.int .u64 (wd a 0 : Nat)) := Fa.out.cell 0
  have ca1 : v5.cell? ⟨ga, 1, none⟩ = some (.int .u64 (wd a 1 : Nat)) := Fa.out.cell 1
  have ca2 : v5.cell? ⟨ga, 2, none⟩ = some (.int .u64 (wd a 2 : Nat)) := Fa.out.cell 2
  have ca3 : v5.cell? ⟨ga, 3, none⟩ = some (.int .u64 (wd a 3 : Nat)) := Fa.out.cell 3
  have Lm := Fm.out.lt
  have cm0 : v5.cell? ⟨gm, 0, none⟩ = some (.int .u64 (wd M 0 : Nat)) := Fm.out.cell 0
  have cm1 : v5.cell? ⟨gm, 1, none⟩ = some (.int .u64 (wd M 1 : Nat)) := Fm.out.cell 1
  have cm2 : v5.cell? ⟨gm, 2, none⟩ = some (.int .u64 (wd M 2 : Nat)) := Fm.out.cell 2
  have cm3 : v5.cell? ⟨gm, 3, none⟩ = some (.int .u64 (wd M 3 : Nat)) := Fm.out.cell 3
  go_wp2_with fail
  clear La ca0 ca1 ca2 ca3 Lm cm0 cm1 cm2 cm3
  have Nb : At (v5.alloc (.cells #[.int .u64 (wd b 0 : Nat), .int .u64 (wd b 1 : Nat), .int .u64 (wd b 2 : Nat), .int .u64 (wd b 3 : Nat)] 24)) (v5.heap.size) 24 #[.int .u64 (wd b 0 : Nat), .int .u64 (wd b 1 : Nat), .int .u64 (wd b 2 : Nat), .int .u64 (wd b 3 : Nat)] := At.at_ _ _ _ _ (by simp)
  have Narr : At (v5.alloc (.cells #[.int .u64 (wd b 0 : Nat), .int .u64 (wd b 1 : Nat), .int .u64 (wd b 2 : Nat), .int .u64 (wd b 3 : Nat)] 24)) garr 43 #[.int .u64 (wd X 0 : Nat), .int .u64 (wd X 1 : Nat), .int .u64 (wd X 2 : Nat), .int .u64 (wd X 3 : Nat), .int .u64 (wd Y 0 : Nat), .int .u64 (wd Y 1 : Nat), .int .u64 (wd Y 2 : Nat), .int .u64 (wd Y 3 : Nat)] := Farr.out.alloc _
  have Nm : At (v5.alloc (.cells #[.int .u64 (wd b 0 : Nat), .int .u64 (wd b 1 : Nat), .int .u64 (wd b 2 : Nat), .int .u64 (wd b 3 : Nat)] 24)) gm 24 #[.int .u64 (wd M 0 : Nat), .int .u64 (wd M 1 : Nat), .int .u64 (wd M 2 : Nat), .int .u64 (wd M 3 : Nat)] := Fm.out.alloc _
  have Na : At (v5.alloc (.cells #[.int .u64 (wd b 0 : Nat), .int .u64 (wd b 1 : Nat), .int .u64 (wd b 2 : Nat), .int .u64 (wd b 3 : Nat)] 24)) ga 24 #[.int .u64 (wd a 0 : Nat), .int .u64 (wd a 1 : Nat), .int .u64 (wd a 2 : Nat), .int .u64 (wd a 3 : Nat)] := Fa.out.alloc _
  have NB : Below w.heap.size w (v5.alloc (.cells #[.int .u64 (wd b 0 : Nat), .int .u64 (wd b 1 : Nat), .int .u64 (wd b 2 : Nat), .int .u64 (wd b 3 : Nat)] 24)) := gr_alloc BW.out _
  clear BW Farr Fm Fa
  generalize (v5.alloc (.cells #[.int .u64 (wd b 0 : Nat), .int .u64 (wd b 1 : Nat), .int .u64 (wd b 2 : Nat), .int .u64 (wd b 3 : Nat)] 24)) = W6 at *
  generalize v5.heap.size = gb at *
  have Farr := Lib.hid Narr
  have Fm := Lib.hid Nm
  have Fa := Lib.hid Na
  have Fb := Lib.hid Nb
  have BW := Lib.hid NB
  clear NB Narr Nm Na Nb
  clear Farr
  refine (HI1.out _).mono ?_
  rintro e v7 ⟨rfl, z7⟩
  have Nm := Lib.hid (Fm.out.on z7)
  have Na := Lib.hid (Fa.out.on z7)
  have Nb := Lib.hid (Fb.out.on z7)
  have NB := Lib.hid (bel_tr BW.out z7)
  clear BW z7 Fm Fa Fb
  have Fm := Nm
  have Fa := Na
  have Fb := Nb
  have BW := NB
  clear NB Nm Na Nb
  have Lb := Fb.out.lt
  have cb0 : v7.cell? ⟨gb, 0, none⟩ = some (.int .u64 (wd b 0 : Nat)) := Fb.out.cell 0
  have cb1 : v7.cell? ⟨gb, 1, none⟩ = some (.int .u64 (wd b 1 : Nat)) := Fb.out.cell 1
  have cb2 : v7.cell? ⟨gb, 2, none⟩ = some (.int .u64 (wd b 2 : Nat)) := Fb.out.cell 2
  have cb3 : v7.cell? ⟨gb, 3, none⟩ = some (.int .u64 (wd b 3 : Nat)) := Fb.out.cell 3
  have Lm := Fm.out.lt
  have cm0 : v7.cell? ⟨gm, 0, none⟩ = some (.int .u64 (wd M 0 : Nat)) := Fm.out.cell 0
  have cm1 : v7.cell? ⟨gm, 1, none⟩ = some (.int .u64 (wd M 1 : Nat)) := Fm.out.cell 1
  have cm2 : v7.cell? ⟨gm, 2, none⟩ = some (.int .u64 (wd M 2 : Nat)) := Fm.out.cell 2
  have cm3 : v7.cell? ⟨gm, 3, none⟩ = some (.int .u64 (wd M 3 : Nat)) := Fm.out.cell 3
  go_wp2_with fail
  clear Lb cb0 cb1 cb2 cb3 Lm cm0 cm1 cm2 cm3
  have Nx : At (v7.alloc (.cells #[.int .u64 (wd N0 0 : Nat), .int .u64 (wd N0 1 : Nat), .int .u64 (wd N0 2 : Nat), .int .u64 (wd N0 3 : Nat)] 24)) (v7.heap.size) 24 #[.int .u64 (wd N0 0 : Nat), .int .u64 (wd N0 1 : Nat), .int .u64 (wd N0 2 : Nat), .int .u64 (wd N0 3 : Nat)] := At.at_ _ _ _ _ (by simp)
  have Nm : At (v7.alloc (.cells #[.int .u64 (wd N0 0 : Nat), .int .u64 (wd N0 1 : Nat), .int .u64 (wd N0 2 : Nat), .int .u64 (wd N0 3 : Nat)] 24)) gm 24 #[.int .u64 (wd M 0 : Nat), .int .u64 (wd M 1 : Nat), .int .u64 (wd M 2 : Nat), .int .u64 (wd M 3 : Nat)] := Fm.out.alloc _
  have Na : At (v7.alloc (.cells #[.int .u64 (wd N0 0 : Nat), .int .u64 (wd N0 1 : Nat), .int .u64 (wd N0 2 : Nat), .int .u64 (wd N0 3 : Nat)] 24)) ga 24 #[.int .u64 (wd a 0 : Nat), .int .u64 (wd a 1 : Nat), .int .u64 (wd a 2 : Nat), .int .u64 (wd a 3 : Nat)] := Fa.out.alloc _
  have Nb : At (v7.alloc (.cells #[.int .u64 (wd N0 0 : Nat), .int .u64 (wd N0 1 : Nat), .int .u64 (wd N0 2 : Nat), .int .u64 (wd N0 3 : Nat)] 24)) gb 24 #[.int .u64 (wd b 0 : Nat), .int .u64 (wd b 1 : Nat), .int .u64 (wd b 2 : Nat), .int .u64 (wd b 3 : Nat)] := Fb.out.alloc _
  have NB : Below w.heap.size w (v7.alloc (.cells #[.int .u64 (wd N0 0 : Nat), .int .u64 (wd N0 1 : Nat), .int .u64 (wd N0 2 : Nat), .int .u64 (wd N0 3 : Nat)] 24)) := gr_alloc BW.out _
  clear BW Fm Fa Fb
  generalize (v7.alloc (.cells #[.int .u64 (wd N0 0 : Nat), .int .u64 (wd N0 1 : Nat), .int .u64 (wd N0 2 : Nat), .int .u64 (wd N0 3 : Nat)] 24)) = W8 at *
  generalize v7.heap.size = gx at *
  have Fm := Lib.hid Nm
  have Fa := Lib.hid Na
  have Fb := Lib.hid Nb
  have Fx := Lib.hid Nx
  have BW := Lib.hid NB
  clear NB Nm Na Nb Nx
  refine (HI2.out _).mono ?_
  rintro e v9 ⟨rfl, z9⟩
  have Nm := Lib.hid (Fm.out.on z9)
  have Na := Lib.hid (Fa.out.on z9)
  have Nb := Lib.hid (Fb.out.on z9)
  have Nx := Lib.hid (Fx.out.on z9)
  have NB := Lib.hid (bel_tr BW.out z9)
  clear BW z9 Fm Fa Fb Fx
  have Fm := Nm
  have Fa := Na
  have Fb := Nb
  have Fx := Nx
  have BW := NB
  clear NB Nm Na Nb Nx
  go_wp2_with fail
  have Ny : At (v9.alloc (.cells #[.int .u64 (wd y 0 : Nat), .int .u64 (wd y 1 : Nat), .int .u64 (wd y 2 : Nat), .int .u64 (wd y 3 : Nat)] 24)) (v9.heap.size) 24 #[.int .u64 (wd y 0 : Nat), .int .u64 (wd y 1 : Nat), .int .u64 (wd y 2 : Nat), .int .u64 (wd y 3 : Nat)] := At.at_ _ _ _ _ (by simp)
  have Nm : At (v9.alloc (.cells #[.int .u64 (wd y 0 : Nat), .int .u64 (wd y 1 : Nat), .int .u64 (wd y 2 : Nat), .int .u64 (wd y 3 : Nat)] 24)) gm 24 #[.int .u64 (wd M 0 : Nat), .int .u64 (wd M 1 : Nat), .int .u64 (wd M 2 : Nat), .int .u64 (wd M 3 : Nat)] := Fm.out.alloc _
  have Na : At (v9.alloc (.cells #[.int .u64 (wd y 0 : Nat), .int .u64 (wd y 1 : Nat), .int .u64 (wd y 2 : Nat), .int .u64 (wd y 3 : Nat)] 24)) ga 24 #[.int .u64 (wd a 0 : Nat), .int .u64 (wd a 1 : Nat), .int .u64 (wd a 2 : Nat), .int .u64 (wd a 3 : Nat)] := Fa.out.alloc _
  have Nb : At (v9.alloc (.cells #[.int .u64 (wd y 0 : Nat), .int .u64 (wd y 1 : Nat), .int .u64 (wd y 2 : Nat), .int .u64 (wd y 3 : Nat)] 24)) gb 24 #[.int .u64 (wd b 0 : Nat), .int .u64 (wd b 1 : Nat), .int .u64 (wd b 2 : Nat), .int .u64 (wd b 3 : Nat)] := Fb.out.alloc _
  have Nx : At (v9.alloc (.cells #[.int .u64 (wd y 0 : Nat), .int .u64 (wd y 1 : Nat), .int .u64 (wd y 2 : Nat), .int .u64 (wd y 3 : Nat)] 24)) gx 24 #[.int .u64 (wd N0 0 : Nat), .int .u64 (wd N0 1 : Nat), .int .u64 (wd N0 2 : Nat), .int .u64 (wd N0 3 : Nat)] := Fx.out.alloc _
  have NB : Below w.heap.size w (v9.alloc (.cells #[.int .u64 (wd y 0 : Nat), .int .u64 (wd y 1 : Nat), .int .u64 (wd y 2 : Nat), .int .u64 (wd y 3 : Nat)] 24)) := gr_alloc BW.out _
  clear BW Fm Fa Fb Fx
  generalize (v9.alloc (.cells #[.int .u64 (wd y 0 : Nat), .int .u64 (wd y 1 : Nat), .int .u64 (wd y 2 : Nat), .int .u64 (wd y 3 : Nat)] 24)) = W10 at *
  generalize v9.heap.size = gy at *
  have Fm := Lib.hid Nm
  have Fa := Lib.hid Na
  have Fb := Lib.hid Nb
  have Fx := Lib.hid Nx
  have Fy := Lib.hid Ny
  have BW := Lib.hid NB
  clear NB Nm Na Nb Nx Ny
  try simp only [List.append_eq, List.cons_append, List.nil_append]
  refine wp_region_noPanic ?_
  refine wp_region_held_drew (S := fun w' => At w' ga 24 #[.int .u64 (wd a 0 : Nat), .int .u64 (wd a 1 : Nat), .int .u64 (wd a 2 : Nat), .int .u64 (wd a 3 : Nat)] ∧ At w' gm 24 #[.int .u64 (wd M 0 : Nat), .int .u64 (wd M 1 : Nat), .int .u64 (wd M 2 : Nat), .int .u64 (wd M 3 : Nat)] ∧ At w' gx 24 #[.int .u64 (wd N0 0 : Nat), .int .u64 (wd N0 1 : Nat), .int .u64 (wd N0 2 : Nat), .int .u64 (wd N0 3 : Nat)]) (by kernel_rfl) (⟨Fa.out.drew, Fm.out.drew, Fx.out.drew⟩) (fun _ => ?_)
  refine wpAnyH_cores (fuel := 0) (⟨0, 46, [], Kind.val (.int .i64 7), true⟩ :: ⟨1, 47, [0], Kind.val (.bool false), true⟩ :: ⟨2, 48, [1], Kind.val (.agg #[.int .u64 (wd a 0 : Nat), .int .u64 (wd a 1 : Nat), .int .u64 (wd a 2 : Nat), .int .u64 (wd a 3 : Nat)]), true⟩ :: ⟨3, 49, [2], Kind.val (.agg #[.int .u64 (wd M 0 : Nat), .int .u64 (wd M 1 : Nat), .int .u64 (wd M 2 : Nat), .int .u64 (wd M 3 : Nat)]), true⟩ :: ⟨4, 50, [2, 3], Kind.val (.agg #[.int .u64 (wd g 0 : Nat), .int .u64 (wd g 1 : Nat), .int .u64 (wd g 2 : Nat), .int .u64 (wd g 3 : Nat)]), false⟩ :: ⟨5, 51, [4], Kind.val (.agg #[.int .u64 (wd Z 0 : Nat), .int .u64 (wd Z 1 : Nat), .int .u64 (wd Z 2 : Nat), .int .u64 (wd Z 3 : Nat)]), false⟩ :: ⟨6, 52, [4, 5], Kind.val (.bool false), true⟩ :: ⟨7, 53, [1, 6], Kind.val (.bool false), true⟩ :: ⟨8, 54, [7], Kind.val (.bool false), true⟩ :: ⟨9, 55, [8], Kind.val (.int .i64 7), true⟩ :: ⟨10, 56, [8, 9], Kind.val (.bool true), true⟩ :: ⟨11, 57, [8, 10], Kind.val (.bool true), true⟩ :: ⟨12, 58, [11], Kind.val (.int .i64 7), true⟩ :: ⟨13, 59, [11, 12], Kind.val (.bool false), true⟩ :: ⟨14, 60, [11, 13], Kind.val (.bool false), true⟩ :: ⟨15, 61, [14], Kind.val (.agg #[.int .u64 (wd N0 0 : Nat), .int .u64 (wd N0 1 : Nat), .int .u64 (wd N0 2 : Nat), .int .u64 (wd N0 3 : Nat)]), true⟩ :: ⟨16, 62, [14, 15], Kind.val (.agg #[.int .u64 (wd N0 0 : Nat), .int .u64 (wd N0 1 : Nat), .int .u64 (wd N0 2 : Nat), .int .u64 (wd N0 3 : Nat)]), false⟩ :: ⟨17, 63, [14, 15, 16], Kind.val (.bool false), true⟩ :: ⟨18, 64, [11, 14, 17], Kind.val (.bool false), true⟩ :: ⟨19, 65, [8, 11, 18], Kind.val (.bool false), true⟩ :: ⟨20, 66, [8, 19], Kind.val (.bool false), true⟩ :: []) _ _ W10 _ ?_ ?_ ?_ ?_ ?_ ?_ ?_ ?_ ?_ ?_ ?_
  · rfl
  · kernel_rfl
  · exact of_decide_eq_true (by kernel_rfl)
  · exact all_cons ⟨_, by rfl, by rfl⟩ (all_cons ⟨_, by rfl, by rfl⟩ (all_cons ⟨_, by rfl, by rfl⟩ (all_cons ⟨_, by rfl, by rfl⟩ (all_cons ⟨_, by rfl, by rfl⟩ (all_cons ⟨_, by rfl, by rfl⟩ (all_cons ⟨_, by rfl, by rfl⟩ (all_cons ⟨_, by rfl, by rfl⟩ (all_cons ⟨_, by rfl, by rfl⟩ (all_cons ⟨_, by rfl, by rfl⟩ (all_cons ⟨_, by rfl, by rfl⟩ (all_cons ⟨_, by rfl, by rfl⟩ (all_cons ⟨_, by rfl, by rfl⟩ (all_cons ⟨_, by rfl, by rfl⟩ (all_cons ⟨_, by rfl, by rfl⟩ (all_cons ⟨_, by rfl, by rfl⟩ (all_cons ⟨_, by rfl, by rfl⟩ (all_cons ⟨_, by rfl, by rfl⟩ (all_cons ⟨_, by rfl, by rfl⟩ (all_cons ⟨_, by rfl, by rfl⟩ (all_cons ⟨_, by rfl, by rfl⟩ (all_nil)))))))))))))))))))))
  · exact fun _ hb => ⟨Fa.out.on hb, Fm.out.on hb, Fx.out.on hb⟩
  · exact (Below.refl _ _).drew
  · kernel_rfl
  · exact fun _ _ _ _ _ h => h
  · refine all_cons ?_ (all_cons ?_ (all_cons ?_ (all_cons ?_ (all_cons ?_ (all_cons ?_ (all_cons ?_ (all_cons ?_ (all_cons ?_ (all_cons ?_ (all_cons ?_ (all_cons ?_ (all_cons ?_ (all_cons ?_ (all_cons ?_ (all_cons ?_ (all_cons ?_ (all_cons ?_ (all_cons ?_ (all_cons ?_ (all_cons ?_ (all_nil)))))))))))))))))))))
    · exact coreG_move _ _ _ _ _ _ _ (by rfl) (by rfl) (wants_none) (known_old 8 _ (of_decide_eq_true (by rfl)) (by rfl))
    · exact coreG_bin _ _ _ _ _ _ _ _ _ _ _ _ _ (by rfl) (by rfl) (wants_none) (known_core 0 46 _ _ (of_decide_eq_true (by rfl)) (by rfl) (by rfl) (by rfl)) (known_const _) ((fun ρ w hx hy => by simp only [execOp, hx, hy]; simp [go_sem]))
    · exact coreG_loadP _ _ _ _ _ _ ga _ _ _ _ (by rfl) (by rfl) (wants_none) (known_old 5 _ (of_decide_eq_true (by rfl)) (by rfl)) (fun _ hs => hs.1)
    · exact coreG_loadP _ _ _ _ _ _ gm _ _ _ _ (by rfl) (by rfl) (wants_none) (known_old 3 _ (of_decide_eq_true (by rfl)) (by rfl)) (fun _ hs => hs.2.1)
    · exact core_pureAs _ (by rfl)
    · exact core_pureAs _ (by rfl)
    · exact coreG_bin _ _ _ _ _ _ _ _ _ _ _ _ _ (by rfl) (by rfl) (wants_none) (known_core 4 50 _ _ (of_decide_eq_true (by rfl)) (by rfl) (by rfl) (by rfl)) (known_core 5 51 _ _ (of_decide_eq_true (by rfl)) (by rfl) (by rfl) (by rfl)) (eql_run false _ _ _ _ _ _ _ _ _ _ _ _ _ _ _ (HEG.out))
    · exact coreG_bin _ _ _ _ _ _ _ _ _ _ _ _ _ (by rfl) (by rfl) (wants_none) (known_core 1 47 _ _ (of_decide_eq_true (by rfl)) (by rfl) (by rfl) (by rfl)) (known_core 6 52 _ _ (of_decide_eq_true (by rfl)) (by rfl) (by rfl) (by rfl)) ((fun ρ w hx hy => by simp only [execOp, hx, hy]; simp [go_sem]))
    · exact coreG_move _ _ _ _ _ _ _ (by rfl) (by rfl) (wants_none) (known_core 7 53 _ _ (of_decide_eq_true (by rfl)) (by rfl) (by rfl) (by rfl))
    · exact coreG_move _ _ _ _ _ _ _ (by rfl) (by rfl) (wants_core 8 54 8 _ _ _ (by rfl) (by rfl) (by rfl) (known_core 8 54 _ _ (of_decide_eq_true (by rfl)) (by rfl) (by rfl) (by rfl)) _ (by rfl)) (known_old 8 _ (of_decide_eq_true (by rfl)) (by rfl))
    · exact coreG_bin _ _ _ _ _ _ _ _ _ _ _ _ _ (by rfl) (by rfl) (wants_core 8 54 8 _ _ _ (by rfl) (by rfl) (by rfl) (known_core 8 54 _ _ (of_decide_eq_true (by rfl)) (by rfl) (by rfl) (by rfl)) _ (by rfl)) (known_core 9 55 _ _ (of_decide_eq_true (by rfl)) (by rfl) (by rfl) (by rfl)) (known_const _) ((fun ρ w hx hy => by simp only [execOp, hx, hy]; simp [go_sem]))
    · exact coreG_move _ _ _ _ _ _ _ (by rfl) (by rfl) (wants_core 8 54 8 _ _ _ (by rfl) (by rfl) (by rfl) (known_core 8 54 _ _ (of_decide_eq_true (by rfl)) (by rfl) (by rfl) (by rfl)) _ (by rfl)) (known_core 10 56 _ _ (of_decide_eq_true (by rfl)) (by rfl) (by rfl) (by rfl))
    · exact coreG_move _ _ _ _ _ _ _ (by rfl) (by rfl) (wants_core 11 57 11 _ _ _ (by rfl) (by rfl) (by rfl) (known_core 11 57 _ _ (of_decide_eq_true (by rfl)) (by rfl) (by rfl) (by rfl)) _ (by rfl)) (known_old 8 _ (of_decide_eq_true (by rfl)) (by rfl))
    · exact coreG_bin _ _ _ _ _ _ _ _ _ _ _ _ _ (by rfl) (by rfl) (wants_core 11 57 11 _ _ _ (by rfl) (by rfl) (by rfl) (known_core 11 57 _ _ (of_decide_eq_true (by rfl)) (by rfl) (by rfl) (by rfl)) _ (by rfl)) (known_core 12 58 _ _ (of_decide_eq_true (by rfl)) (by rfl) (by rfl) (by rfl)) (known_const _) ((fun ρ w hx hy => by simp only [execOp, hx, hy]; simp [go_sem]))
    · exact coreG_move _ _ _ _ _ _ _ (by rfl) (by rfl) (wants_core 11 57 11 _ _ _ (by rfl) (by rfl) (by rfl) (known_core 11 57 _ _ (of_decide_eq_true (by rfl)) (by rfl) (by rfl) (by rfl)) _ (by rfl)) (known_core 13 59 _ _ (of_decide_eq_true (by rfl)) (by rfl) (by rfl) (by rfl))
    · exact coreG_loadP _ _ _ _ _ _ gx _ _ _ _ (by rfl) (by rfl) (wants_core 14 60 14 _ _ _ (by rfl) (by rfl) (by rfl) (known_core 14 60 _ _ (of_decide_eq_true (by rfl)) (by rfl) (by rfl) (by rfl)) _ (by rfl)) (known_old 7 _ (of_decide_eq_true (by rfl)) (by rfl)) (fun _ hs => hs.2.2)
    · exact core_pureAs _ (by rfl)
    · exact coreG_bin _ _ _ _ _ _ _ _ _ _ _ _ _ (by rfl) (by rfl) (wants_core 14 60 14 _ _ _ (by rfl) (by rfl) (by rfl) (known_core 14 60 _ _ (of_decide_eq_true (by rfl)) (by rfl) (by rfl) (by rfl)) _ (by rfl)) (known_core 15 61 _ _ (of_decide_eq_true (by rfl)) (by rfl) (by rfl) (by rfl)) (known_core 16 62 _ _ (of_decide_eq_true (by rfl)) (by rfl) (by rfl) (by rfl)) (neq_run true _ _ _ _ _ _ _ _ _ _ _ _ _ _ _ (eqY N0))
    · exact coreG_pick _ _ _ _ _ _ _ _ _ _ _ _ (by rfl) (by rfl) (wants_core 11 57 11 _ _ _ (by rfl) (by rfl) (by rfl) (known_core 11 57 _ _ (of_decide_eq_true (by rfl)) (by rfl) (by rfl) (by rfl)) _ (by rfl)) (known_core 14 60 _ _ (of_decide_eq_true (by rfl)) (by rfl) (by rfl) (by rfl)) (known_const _) (known_core 17 63 _ _ (of_decide_eq_true (by rfl)) (by rfl) (by rfl) (by rfl)) (by rfl)
    · exact coreG_pick _ _ _ _ _ _ _ _ _ _ _ _ (by rfl) (by rfl) (wants_core 8 54 8 _ _ _ (by rfl) (by rfl) (by rfl) (known_core 8 54 _ _ (of_decide_eq_true (by rfl)) (by rfl) (by rfl) (by rfl)) _ (by rfl)) (known_core 11 57 _ _ (of_decide_eq_true (by rfl)) (by rfl) (by rfl) (by rfl)) (known_core 18 64 _ _ (of_decide_eq_true (by rfl)) (by rfl) (by rfl) (by rfl)) (known_const _) (by rfl)
    · exact coreG_pick _ _ _ _ _ _ _ _ _ _ _ _ (by rfl) (by rfl) (wants_none) (known_core 8 54 _ _ (of_decide_eq_true (by rfl)) (by rfl) (by rfl) (by rfl)) (known_const _) (known_core 19 65 _ _ (of_decide_eq_true (by rfl)) (by rfl) (by rfl) (by rfl)) (by rfl)
  · refine all_cons ?_ (all_cons ?_ (all_cons ?_ (all_cons ?_ (all_cons ?_ (all_cons ?_ (all_cons ?_ (all_cons ?_ (all_cons ?_ (all_cons ?_ (all_cons ?_ (all_cons ?_ (all_cons ?_ (all_cons ?_ (all_cons ?_ (all_cons ?_ (all_cons ?_ (all_cons ?_ (all_cons ?_ (all_cons ?_ (all_cons ?_ (all_nil)))))))))))))))))))))
    · exact core_stepAs _ (by rfl)
    · exact core_stepAs _ (by rfl)
    · exact core_stepAs _ (by rfl)
    · exact core_stepAs _ (by rfl)
    · exact fun _ => coreG_call _ 15 _ _ [.tmp 48, .tmp 49] _ _ _ _ _ _ _ (by rfl) Try.func15 (by kernel_rfl) (by rfl) (by rfl) (wants_none) (.cons (known_core 2 48 _ _ (of_decide_eq_true (by rfl)) (by rfl) (by rfl) (by rfl)) (.cons (known_core 3 49 _ _ (of_decide_eq_true (by rfl)) (by rfl) (by rfl) (by rfl)) .nil)) (HCM.out)
    · exact fun _ => coreG_call _ 28 _ _ [.const (.int .u64 1)] _ _ _ _ _ _ _ (by rfl) Try.func28 (by kernel_rfl) (by rfl) (by rfl) (wants_none) (.cons (known_const _) .nil) (HO.out)
    · exact core_stepAs _ (by rfl)
    · exact core_stepAs _ (by rfl)
    · exact core_stepAs _ (by rfl)
    · exact core_stepAs _ (by rfl)
    · exact core_stepAs _ (by rfl)
    · exact core_stepAs _ (by rfl)
    · exact core_stepAs _ (by rfl)
    · exact core_stepAs _ (by rfl)
    · exact core_stepAs _ (by rfl)
    · exact core_stepAs _ (by rfl)
    · exact fun _ => coreG_call _ 28 _ _ [.const (.int .u64 0)] _ _ _ _ _ _ _ (by rfl) Try.func28 (by kernel_rfl) (by rfl) (by rfl) (wants_core 14 60 14 _ _ _ (by rfl) (by rfl) (by rfl) (known_core 14 60 _ _ (of_decide_eq_true (by rfl)) (by rfl) (by rfl) (by rfl)) _ (by rfl)) (.cons (known_const _) .nil) (HN.out)
    · exact core_stepAs _ (by rfl)
    · exact core_stepAs _ (by rfl)
    · exact core_stepAs _ (by rfl)
    · exact core_stepAs _ (by rfl)
  intro vs y11 hc
  obtain ⟨vv0, vv1, vv2, vv3, vv4, vv5, vv6, vv7, vv8, vv9, vv10, vv11, vv12, vv13, vv14, vv15, vv16, vv17, vv18, vv19, vv20, rfl⟩ := len21 vs hc.lv
  have qq0 : vv0 = .int .i64 7 := by obtain ⟨xx, hx, hy⟩ := hc.ok 0 _ rfl rfl; exact (Option.some.inj (show some vv0 = some xx from hx)).trans hy
  have qq1 : vv1 = .bool false := by obtain ⟨xx, hx, hy⟩ := hc.ok 1 _ rfl rfl; exact (Option.some.inj (show some vv1 = some xx from hx)).trans hy
  have qq2 : vv2 = .agg #[.int .u64 (wd a 0 : Nat), .int .u64 (wd a 1 : Nat), .int .u64 (wd a 2 : Nat), .int .u64 (wd a 3 : Nat)] := by obtain ⟨xx, hx, hy⟩ := hc.ok 2 _ rfl rfl; exact (Option.some.inj (show some vv2 = some xx from hx)).trans hy
  have qq3 : vv3 = .agg #[.int .u64 (wd M 0 : Nat), .int .u64 (wd M 1 : Nat), .int .u64 (wd M 2 : Nat), .int .u64 (wd M 3 : Nat)] := by obtain ⟨xx, hx, hy⟩ := hc.ok 3 _ rfl rfl; exact (Option.some.inj (show some vv3 = some xx from hx)).trans hy
  have qq4 : vv4 = .agg #[.int .u64 (wd g 0 : Nat), .int .u64 (wd g 1 : Nat), .int .u64 (wd g 2 : Nat), .int .u64 (wd g 3 : Nat)] := by obtain ⟨xx, hx, hy⟩ := hc.ok 4 _ rfl rfl; exact (Option.some.inj (show some vv4 = some xx from hx)).trans hy
  have qq5 : vv5 = .agg #[.int .u64 (wd Z 0 : Nat), .int .u64 (wd Z 1 : Nat), .int .u64 (wd Z 2 : Nat), .int .u64 (wd Z 3 : Nat)] := by obtain ⟨xx, hx, hy⟩ := hc.ok 5 _ rfl rfl; exact (Option.some.inj (show some vv5 = some xx from hx)).trans hy
  have qq6 : vv6 = .bool false := by obtain ⟨xx, hx, hy⟩ := hc.ok 6 _ rfl rfl; exact (Option.some.inj (show some vv6 = some xx from hx)).trans hy
  have qq7 : vv7 = .bool false := by obtain ⟨xx, hx, hy⟩ := hc.ok 7 _ rfl rfl; exact (Option.some.inj (show some vv7 = some xx from hx)).trans hy
  have qq8 : vv8 = .bool false := by obtain ⟨xx, hx, hy⟩ := hc.ok 8 _ rfl rfl; exact (Option.some.inj (show some vv8 = some xx from hx)).trans hy
  have qq9 : vv9 = .int .i64 7 := by obtain ⟨xx, hx, hy⟩ := hc.ok 9 _ rfl rfl; exact (Option.some.inj (show some vv9 = some xx from hx)).trans hy
  have qq10 : vv10 = .bool true := by obtain ⟨xx, hx, hy⟩ := hc.ok 10 _ rfl rfl; exact (Option.some.inj (show some vv10 = some xx from hx)).trans hy
  have qq11 : vv11 = .bool true := by obtain ⟨xx, hx, hy⟩ := hc.ok 11 _ rfl rfl; exact (Option.some.inj (show some vv11 = some xx from hx)).trans hy
  have qq12 : vv12 = .int .i64 7 := by obtain ⟨xx, hx, hy⟩ := hc.ok 12 _ rfl rfl; exact (Option.some.inj (show some vv12 = some xx from hx)).trans hy
  have qq13 : vv13 = .bool false := by obtain ⟨xx, hx, hy⟩ := hc.ok 13 _ rfl rfl; exact (Option.some.inj (show some vv13 = some xx from hx)).trans hy
  have qq14 : vv14 = .bool false := by obtain ⟨xx, hx, hy⟩ := hc.ok 14 _ rfl rfl; exact (Option.some.inj (show some vv14 = some xx from hx)).trans hy
  have qq15 : vv15 = .agg #[.int .u64 (wd N0 0 : Nat), .int .u64 (wd N0 1 : Nat), .int .u64 (wd N0 2 : Nat), .int .u64 (wd N0 3 : Nat)] := by obtain ⟨xx, hx, hy⟩ := hc.ok 15 _ rfl rfl; exact (Option.some.inj (show some vv15 = some xx from hx)).trans hy
  have qq16 : vv16 = .agg #[.int .u64 (wd N0 0 : Nat), .int .u64 (wd N0 1 : Nat), .int .u64 (wd N0 2 : Nat), .int .u64 (wd N0 3 : Nat)] := by obtain ⟨xx, hx, hy⟩ := hc.ok 16 _ rfl rfl; exact (Option.some.inj (show some vv16 = some xx from hx)).trans hy
  have qq17 : vv17 = .bool false := by obtain ⟨xx, hx, hy⟩ := hc.ok 17 _ rfl rfl; exact (Option.some.inj (show some vv17 = some xx from hx)).trans hy
  have qq18 : vv18 = .bool false := by obtain ⟨xx, hx, hy⟩ := hc.ok 18 _ rfl rfl; exact (Option.some.inj (show some vv18 = some xx from hx)).trans hy
  have qq19 : vv19 = .bool false := by obtain ⟨xx, hx, hy⟩ := hc.ok 19 _ rfl rfl; exact (Option.some.inj (show some vv19 = some xx from hx)).trans hy
  have qq20 : vv20 = .bool false := by obtain ⟨xx, hx, hy⟩ := hc.ok 20 _ rfl rfl; exact (Option.some.inj (show some vv20 = some xx from hx)).trans hy
  have BZ := hc.bel
  clear hc
  have Nm := Fm.out.on BZ
  have Na := Fa.out.on BZ
  have Nb := Fb.out.on BZ
  have Nx := Fx.out.on BZ
  have Ny := Fy.out.on BZ
  have NB := bel_tr BW.out BZ
  clear BW BZ Fm Fa Fb Fx Fy
  subst qq0 qq1 qq2 qq3 qq4 qq5 qq6 qq7 qq8 qq9 qq10 qq11 qq12 qq13 qq14 qq15 qq16 qq17 qq18 qq19 qq20
  simp only [List.map_cons, List.map_nil, over, Act.put, List.setIfInBounds_toArray, List.set_cons_zero, List.set_cons_succ]
  refine wpAnyH_done (by kernel_rfl) ?_ _
  refine NoPanic.normal ?_
  have Fm := Lib.hid Nm
  have Fa := Lib.hid Na
  have Fb := Lib.hid Nb
  have Fx := Lib.hid Nx
  have Fy := Lib.hid Ny
  have BW := Lib.hid NB
  clear NB Nm Na Nb Nx Ny
  have La := Fa.out.lt
  have ca0 : y11.cell? ⟨ga, 0, none⟩ = some (.int .u64 (wd a 0 : Nat)) := Fa.out.cell 0
  have ca1 : y11.cell? ⟨ga, 1, none⟩ = some (.int .u64 (wd a 1 : Nat)) := Fa.out.cell 1
  have ca2 : y11.cell? ⟨ga, 2, none⟩ = some (.int .u64 (wd a 2 : Nat)) := Fa.out.cell 2
  have ca3 : y11.cell? ⟨ga, 3, none⟩ = some (.int .u64 (wd a 3 : Nat)) := Fa.out.cell 3
  have Lb := Fb.out.lt
  have cb0 : y11.cell? ⟨gb, 0, none⟩ = some (.int .u64 (wd b 0 : Nat)) := Fb.out.cell 0
  have cb1 : y11.cell? ⟨gb, 1, none⟩ = some (.int .u64 (wd b 1 : Nat)) := Fb.out.cell 1
  have cb2 : y11.cell? ⟨gb, 2, none⟩ = some (.int .u64 (wd b 2 : Nat)) := Fb.out.cell 2
  have cb3 : y11.cell? ⟨gb, 3, none⟩ = some (.int .u64 (wd b 3 : Nat)) := Fb.out.cell 3
  have Lm := Fm.out.lt
  have cm0 : y11.cell? ⟨gm, 0, none⟩ = some (.int .u64 (wd M 0 : Nat)) := Fm.out.cell 0
  have cm1 : y11.cell? ⟨gm, 1, none⟩ = some (.int .u64 (wd M 1 : Nat)) := Fm.out.cell 1
  have cm2 : y11.cell? ⟨gm, 2, none⟩ = some (.int .u64 (wd M 2 : Nat)) := Fm.out.cell 2
  have cm3 : y11.cell? ⟨gm, 3, none⟩ = some (.int .u64 (wd M 3 : Nat)) := Fm.out.cell 3
  go_wp2_with fail
  clear La ca0 ca1 ca2 ca3 Lb cb0 cb1 cb2 cb3 Lm cm0 cm1 cm2 cm3
  refine (HM1.out _).mono ?_
  rintro e v12 ⟨rfl, z12⟩
  have Nm := Lib.hid (Fm.out.on z12)
  have Na := Lib.hid (Fa.out.on z12)
  have Nb := Lib.hid (Fb.out.on z12)
  have Nx := Lib.hid (Fx.out.on z12)
  have Ny := Lib.hid (Fy.out.on z12)
  have NB := Lib.hid (bel_tr BW.out z12)
  clear BW z12 Fm Fa Fb Fx Fy
  have Fm := Nm
  have Fa := Na
  have Fb := Nb
  have Fx := Nx
  have Fy := Ny
  have BW := NB
  clear NB Nm Na Nb Nx Ny
  have Lm := Fm.out.lt
  have cm0 : v12.cell? ⟨gm, 0, none⟩ = some (.int .u64 (wd M 0 : Nat)) := Fm.out.cell 0
  have cm1 : v12.cell? ⟨gm, 1, none⟩ = some (.int .u64 (wd M 1 : Nat)) := Fm.out.cell 1
  have cm2 : v12.cell? ⟨gm, 2, none⟩ = some (.int .u64 (wd M 2 : Nat)) := Fm.out.cell 2
  have cm3 : v12.cell? ⟨gm, 3, none⟩ = some (.int .u64 (wd M 3 : Nat)) := Fm.out.cell 3
  go_wp2_with fail
  clear Lm cm0 cm1 cm2 cm3
  have Nab : At (v12.alloc (.cells #[.int .u64 (wd ab 0 : Nat), .int .u64 (wd ab 1 : Nat), .int .u64 (wd ab 2 : Nat), .int .u64 (wd ab 3 : Nat)] 24)) (v12.heap.size) 24 #[.int .u64 (wd ab 0 : Nat), .int .u64 (wd ab 1 : Nat), .int .u64 (wd ab 2 : Nat), .int .u64 (wd ab 3 : Nat)] := At.at_ _ _ _ _ (by simp)
  have Nm : At (v12.alloc (.cells #[.int .u64 (wd ab 0 : Nat), .int .u64 (wd ab 1 : Nat), .int .u64 (wd ab 2 : Nat), .int .u64 (wd ab 3 : Nat)] 24)) gm 24 #[.int .u64 (wd M 0 : Nat), .int .u64 (wd M 1 : Nat), .int .u64 (wd M 2 : Nat), .int .u64 (wd M 3 : Nat)] := Fm.out.alloc _
  have Na : At (v12.alloc (.cells #[.int .u64 (wd ab 0 : Nat), .int .u64 (wd ab 1 : Nat), .int .u64 (wd ab 2 : Nat), .int .u64 (wd ab 3 : Nat)] 24)) ga 24 #[.int .u64 (wd a 0 : Nat), .int .u64 (wd a 1 : Nat), .int .u64 (wd a 2 : Nat), .int .u64 (wd a 3 : Nat)] := Fa.out.alloc _
  have Nb : At (v12.alloc (.cells #[.int .u64 (wd ab 0 : Nat), .int .u64 (wd ab 1 : Nat), .int .u64 (wd ab 2 : Nat), .int .u64 (wd ab 3 : Nat)] 24)) gb 24 #[.int .u64 (wd b 0 : Nat), .int .u64 (wd b 1 : Nat), .int .u64 (wd b 2 : Nat), .int .u64 (wd b 3 : Nat)] := Fb.out.alloc _
  have Nx : At (v12.alloc (.cells #[.int .u64 (wd ab 0 : Nat), .int .u64 (wd ab 1 : Nat), .int .u64 (wd ab 2 : Nat), .int .u64 (wd ab 3 : Nat)] 24)) gx 24 #[.int .u64 (wd N0 0 : Nat), .int .u64 (wd N0 1 : Nat), .int .u64 (wd N0 2 : Nat), .int .u64 (wd N0 3 : Nat)] := Fx.out.alloc _
  have Ny : At (v12.alloc (.cells #[.int .u64 (wd ab 0 : Nat), .int .u64 (wd ab 1 : Nat), .int .u64 (wd ab 2 : Nat), .int .u64 (wd ab 3 : Nat)] 24)) gy 24 #[.int .u64 (wd y 0 : Nat), .int .u64 (wd y 1 : Nat), .int .u64 (wd y 2 : Nat), .int .u64 (wd y 3 : Nat)] := Fy.out.alloc _
  have NB : Below w.heap.size w (v12.alloc (.cells #[.int .u64 (wd ab 0 : Nat), .int .u64 (wd ab 1 : Nat), .int .u64 (wd ab 2 : Nat), .int .u64 (wd ab 3 : Nat)] 24)) := gr_alloc BW.out _
  clear BW Fm Fa Fb Fx Fy
  generalize (v12.alloc (.cells #[.int .u64 (wd ab 0 : Nat), .int .u64 (wd ab 1 : Nat), .int .u64 (wd ab 2 : Nat), .int .u64 (wd ab 3 : Nat)] 24)) = W13 at *
  generalize v12.heap.size = gab at *
  have Fm := Lib.hid Nm
  have Fa := Lib.hid Na
  have Fb := Lib.hid Nb
  have Fx := Lib.hid Nx
  have Fy := Lib.hid Ny
  have Fab := Lib.hid Nab
  have BW := Lib.hid NB
  clear NB Nm Na Nb Nx Ny Nab
  refine (HI3.out _).mono ?_
  rintro e v14 ⟨rfl, z14⟩
  have Nm := Lib.hid (Fm.out.on z14)
  have Na := Lib.hid (Fa.out.on z14)
  have Nb := Lib.hid (Fb.out.on z14)
  have Nx := Lib.hid (Fx.out.on z14)
  have Ny := Lib.hid (Fy.out.on z14)
  have Nab := Lib.hid (Fab.out.on z14)
  have NB := Lib.hid (bel_tr BW.out z14)
  clear BW z14 Fm Fa Fb Fx Fy Fab
  have Fm := Nm
  have Fa := Na
  have Fb := Nb
  have Fx := Nx
  have Fy := Ny
  have Fab := Nab
  have BW := NB
  clear NB Nm Na Nb Nx Ny Nab
  go_wp2_with fail
  have Nz : At (v14.alloc (.cells #[.int .u64 (wd N0 0 : Nat), .int .u64 (wd N0 1 : Nat), .int .u64 (wd N0 2 : Nat), .int .u64 (wd N0 3 : Nat)] 24)) (v14.heap.size) 24 #[.int .u64 (wd N0 0 : Nat), .int .u64 (wd N0 1 : Nat), .int .u64 (wd N0 2 : Nat), .int .u64 (wd N0 3 : Nat)] := At.at_ _ _ _ _ (by simp)
  have Nm : At (v14.alloc (.cells #[.int .u64 (wd N0 0 : Nat), .int .u64 (wd N0 1 : Nat), .int .u64 (wd N0 2 : Nat), .int .u64 (wd N0 3 : Nat)] 24)) gm 24 #[.int .u64 (wd M 0 : Nat), .int .u64 (wd M 1 : Nat), .int .u64 (wd M 2 : Nat), .int .u64 (wd M 3 : Nat)] := Fm.out.alloc _
  have Na : At (v14.alloc (.cells #[.int .u64 (wd N0 0 : Nat), .int .u64 (wd N0 1 : Nat), .int .u64 (wd N0 2 : Nat), .int .u64 (wd N0 3 : Nat)] 24)) ga 24 #[.int .u64 (wd a 0 : Nat), .int .u64 (wd a 1 : Nat), .int .u64 (wd a 2 : Nat), .int .u64 (wd a 3 : Nat)] := Fa.out.alloc _
  have Nb : At (v14.alloc (.cells #[.int .u64 (wd N0 0 : Nat), .int .u64 (wd N0 1 : Nat), .int .u64 (wd N0 2 : Nat), .int .u64 (wd N0 3 : Nat)] 24)) gb 24 #[.int .u64 (wd b 0 : Nat), .int .u64 (wd b 1 : Nat), .int .u64 (wd b 2 : Nat), .int .u64 (wd b 3 : Nat)] := Fb.out.alloc _
  have Nx : At (v14.alloc (.cells #[.int .u64 (wd N0 0 : Nat), .int .u64 (wd N0 1 : Nat), .int .u64 (wd N0 2 : Nat), .int .u64 (wd N0 3 : Nat)] 24)) gx 24 #[.int .u64 (wd N0 0 : Nat), .int .u64 (wd N0 1 : Nat), .int .u64 (wd N0 2 : Nat), .int .u64 (wd N0 3 : Nat)] := Fx.out.alloc _
  have Ny : At (v14.alloc (.cells #[.int .u64 (wd N0 0 : Nat), .int .u64 (wd N0 1 : Nat), .int .u64 (wd N0 2 : Nat), .int .u64 (wd N0 3 : Nat)] 24)) gy 24 #[.int .u64 (wd y 0 : Nat), .int .u64 (wd y 1 : Nat), .int .u64 (wd y 2 : Nat), .int .u64 (wd y 3 : Nat)] := Fy.out.alloc _
  have Nab : At (v14.alloc (.cells #[.int .u64 (wd N0 0 : Nat), .int .u64 (wd N0 1 : Nat), .int .u64 (wd N0 2 : Nat), .int .u64 (wd N0 3 : Nat)] 24)) gab 24 #[.int .u64 (wd ab 0 : Nat), .int .u64 (wd ab 1 : Nat), .int .u64 (wd ab 2 : Nat), .int .u64 (wd ab 3 : Nat)] := Fab.out.alloc _
  have NB : Below w.heap.size w (v14.alloc (.cells #[.int .u64 (wd N0 0 : Nat), .int .u64 (wd N0 1 : Nat), .int .u64 (wd N0 2 : Nat), .int .u64 (wd N0 3 : Nat)] 24)) := gr_alloc BW.out _
  clear BW Fm Fa Fb Fx Fy Fab
  generalize (v14.alloc (.cells #[.int .u64 (wd N0 0 : Nat), .int .u64 (wd N0 1 : Nat), .int .u64 (wd N0 2 : Nat), .int .u64 (wd N0 3 : Nat)] 24)) = W15 at *
  generalize v14.heap.size = gz at *
  have Fm := Lib.hid Nm
  have Fa := Lib.hid Na
  have Fb := Lib.hid Nb
  have Fx := Lib.hid Nx
  have Fy := Lib.hid Ny
  have Fab := Lib.hid Nab
  have Fz := Lib.hid Nz
  have BW := Lib.hid NB
  clear NB Nm Na Nb Nx Ny Nab Nz
  refine (alive4_any _).mono ?_
  rintro e v16 ⟨rfl, z16⟩
  have Nm := Lib.hid (Fm.out.on z16)
  have Na := Lib.hid (Fa.out.on z16)
  have Nb := Lib.hid (Fb.out.on z16)
  have Nx := Lib.hid (Fx.out.on z16)
  have Ny := Lib.hid (Fy.out.on z16)
  have Nab := Lib.hid (Fab.out.on z16)
  have Nz := Lib.hid (Fz.out.on z16)
  have NB := Lib.hid (bel_tr BW.out z16)
  clear BW z16 Fm Fa Fb Fx Fy Fab Fz
  have Fm := Nm
  have Fa := Na
  have Fb := Nb
  have Fx := Nx
  have Fy := Ny
  have Fab := Nab
  have Fz := Nz
  have BW := NB
  clear NB Nm Na Nb Nx Ny Nab Nz
  go_wp2_with fail
  go_ret
  exact ⟨rfl, BW.out⟩

set_option maxRecDepth 100000 in
set_option maxHeartbeats 8000000 in
theorem inv_half (X Y M Z N0 a b x y z g ab : Nat) (k : Int)
    (hk : 0 < k)
    (O : ∀ w, Calls Try.prog 28 #[.int .u64 1] w fun e w' => e = .returned (num Z) ∧ Below w.heap.size w w')
    (K : ∀ w, Calls Try.prog 27 #[num M, num Z] w fun e w' => e = .returned (.int .i64 k) ∧ Below w.heap.size w w')
    (B1 : ∀ w, Calls Try.prog 30 #[num X, num M] w fun e w' => e = .returned (num a) ∧ Below w.heap.size w w')
    (B2 : ∀ w, Calls Try.prog 30 #[num Y, num M] w fun e w' => e = .returned (num b) ∧ Below w.heap.size w w')
    (I1 : ∀ w, Calls Try.prog 21 #[num a, num M] w fun e w' => e = .returned (.tuple #[num x, .int .i64 0]) ∧ Below w.heap.size w w')
    (I2 : ∀ w, Calls Try.prog 21 #[num b, num M] w fun e w' => e = .returned (.tuple #[num y, .int .i64 7]) ∧ Below w.heap.size w w')
    (CM : ∀ w, Calls Try.prog 15 #[num a, num M] w fun e w' => e = .returned (num Z) ∧ Below w.heap.size w w')
    (M1 : ∀ w, Calls Try.prog 19 #[num a, num b, num M] w fun e w' => e = .returned (.tuple #[num ab, .int .i64 0]) ∧ Below w.heap.size w w')
    (I3 : ∀ w, Calls Try.prog 21 #[num ab, num M] w fun e w' => e = .returned (.tuple #[num N0, .int .i64 7]) ∧ Below w.heap.size w w')
    (M2 : ∀ w, Calls Try.prog 19 #[num a, num x, num M] w fun e w' => e = .returned (.tuple #[num Z, .int .i64 0]) ∧ Below w.heap.size w w')
    (I4 : ∀ w, Calls Try.prog 21 #[num x, num M] w fun e w' => e = .returned (.tuple #[num a, .int .i64 0]) ∧ Below w.heap.size w w')
    (w : World) : Calls Try.prog 8 #[.agg #[.int .u64 (wd X 0 : Nat), .int .u64 (wd X 1 : Nat), .int .u64 (wd X 2 : Nat), .int .u64 (wd X 3 : Nat), .int .u64 (wd Y 0 : Nat), .int .u64 (wd Y 1 : Nat), .int .u64 (wd Y 2 : Nat), .int .u64 (wd Y 3 : Nat)], num M] w fun e w' => e = .returned (.bool true) ∧ Below w.heap.size w w' := by
  have HO := Lib.hid O
  have HK := Lib.hid K
  have HB1 := Lib.hid B1
  have HB2 := Lib.hid B2
  have HI1 := Lib.hid I1
  have HI2 := Lib.hid I2
  have HCM := Lib.hid CM
  have HM1 := Lib.hid M1
  have HI3 := Lib.hid I3
  have HM2 := Lib.hid M2
  have HI4 := Lib.hid I4
  clear O K B1 B2 I1 I2 CM M1 I3 M2 I4
  go_enter Try.func8, Try.ntmps8
  go_wp2_with fail
  have BW := Lib.hid (Below.refl w.heap.size w)
  have Narr : At ((w.alloc (.cells #[.int .u64 (wd X 0 : Nat), .int .u64 (wd X 1 : Nat), .int .u64 (wd X 2 : Nat), .int .u64 (wd X 3 : Nat), .int .u64 (wd Y 0 : Nat), .int .u64 (wd Y 1 : Nat), .int .u64 (wd Y 2 : Nat), .int .u64 (wd Y 3 : Nat)] 43)).alloc (.cells #[.int .u64 (wd M 0 : Nat), .int .u64 (wd M 1 : Nat), .int .u64 (wd M 2 : Nat), .int .u64 (wd M 3 : Nat)] 24)) (w.heap.size) 43 #[.int .u64 (wd X 0 : Nat), .int .u64 (wd X 1 : Nat), .int .u64 (wd X 2 : Nat), .int .u64 (wd X 3 : Nat), .int .u64 (wd Y 0 : Nat), .int .u64 (wd Y 1 : Nat), .int .u64 (wd Y 2 : Nat), .int .u64 (wd Y 3 : Nat)] := (At.at_ _ _ _ _ (by simp)).alloc _
  have Nm : At ((w.alloc (.cells #[.int .u64 (wd X 0 : Nat), .int .u64 (wd X 1 : Nat), .int .u64 (wd X 2 : Nat), .int .u64 (wd X 3 : Nat), .int .u64 (wd Y 0 : Nat), .int .u64 (wd Y 1 : Nat), .int .u64 (wd Y 2 : Nat), .int .u64 (wd Y 3 : Nat)] 43)).alloc (.cells #[.int .u64 (wd M 0 : Nat), .int .u64 (wd M 1 : Nat), .int .u64 (wd M 2 : Nat), .int .u64 (wd M 3 : Nat)] 24)) (w.heap.size + 1) 24 #[.int .u64 (wd M 0 : Nat), .int .u64 (wd M 1 : Nat), .int .u64 (wd M 2 : Nat), .int .u64 (wd M 3 : Nat)] := At.at_ _ _ _ _ (by simp)
  have NB : Below w.heap.size w ((w.alloc (.cells #[.int .u64 (wd X 0 : Nat), .int .u64 (wd X 1 : Nat), .int .u64 (wd X 2 : Nat), .int .u64 (wd X 3 : Nat), .int .u64 (wd Y 0 : Nat), .int .u64 (wd Y 1 : Nat), .int .u64 (wd Y 2 : Nat), .int .u64 (wd Y 3 : Nat)] 43)).alloc (.cells #[.int .u64 (wd M 0 : Nat), .int .u64 (wd M 1 : Nat), .int .u64 (wd M 2 : Nat), .int .u64 (wd M 3 : Nat)] 24)) := gr_alloc (gr_alloc BW.out _) _
  clear BW 
  generalize ((w.alloc (.cells #[.int .u64 (wd X 0 : Nat), .int .u64 (wd X 1 : Nat), .int .u64 (wd X 2 : Nat), .int .u64 (wd X 3 : Nat), .int .u64 (wd Y 0 : Nat), .int .u64 (wd Y 1 : Nat), .int .u64 (wd Y 2 : Nat), .int .u64 (wd Y 3 : Nat)] 43)).alloc (.cells #[.int .u64 (wd M 0 : Nat), .int .u64 (wd M 1 : Nat), .int .u64 (wd M 2 : Nat), .int .u64 (wd M 3 : Nat)] 24)) = W1 at *
  generalize w.heap.size + 1 = gm at *
  obtain ⟨garr, hg0⟩ : ∃ g, g = w.heap.size := ⟨_, rfl⟩
  rw [← hg0] at Narr ⊢
  clear hg0
  have Farr := Lib.hid Narr
  have Fm := Lib.hid Nm
  have BW := Lib.hid NB
  clear NB Narr Nm
  try simp only [List.append_eq, List.cons_append, List.nil_append]
  refine wp_region_noPanic ?_
  refine wp_region_held_drew (S := fun w' => At w' gm 24 #[.int .u64 (wd M 0 : Nat), .int .u64 (wd M 1 : Nat), .int .u64 (wd M 2 : Nat), .int .u64 (wd M 3 : Nat)]) (by kernel_rfl) (Fm.out.drew) (fun _ => ?_)
  refine wpAnyH_cores (fuel := 0) (⟨0, 21, [], Kind.val (.agg #[.int .u64 (wd M 0 : Nat), .int .u64 (wd M 1 : Nat), .int .u64 (wd M 2 : Nat), .int .u64 (wd M 3 : Nat)]), true⟩ :: ⟨1, 22, [0], Kind.val (.agg #[.int .u64 (wd Z 0 : Nat), .int .u64 (wd Z 1 : Nat), .int .u64 (wd Z 2 : Nat), .int .u64 (wd Z 3 : Nat)]), false⟩ :: ⟨2, 23, [0, 1], Kind.val (.int .i64 k), false⟩ :: ⟨3, 24, [2], Kind.val (.bool false), true⟩ :: []) _ _ W1 _ ?_ ?_ ?_ ?_ ?_ ?_ ?_ ?_ ?_ ?_ ?_
  · rfl
  · kernel_rfl
  · exact of_decide_eq_true (by kernel_rfl)
  · exact all_cons ⟨_, by rfl, by rfl⟩ (all_cons ⟨_, by rfl, by rfl⟩ (all_cons ⟨_, by rfl, by rfl⟩ (all_cons ⟨_, by rfl, by rfl⟩ (all_nil))))
  · exact fun _ hb => Fm.out.on hb
  · exact (Below.refl _ _).drew
  · kernel_rfl
  · exact fun _ _ _ _ _ h => h
  · refine all_cons ?_ (all_cons ?_ (all_cons ?_ (all_cons ?_ (all_nil))))
    · exact coreG_loadP _ _ _ _ _ _ gm _ _ _ _ (by rfl) (by rfl) (wants_none) (known_old 3 _ (of_decide_eq_true (by rfl)) (by rfl)) (fun _ hs => hs)
    · exact core_pureAs _ (by rfl)
    · exact core_pureAs _ (by rfl)
    · exact coreG_bin _ _ _ _ _ _ _ _ _ _ _ _ _ (by rfl) (by rfl) (wants_none) (known_core 2 23 _ _ (of_decide_eq_true (by rfl)) (by rfl) (by rfl) (by rfl)) (known_const _) ((fun ρ w hx hy => by simp only [execOp, hx, hy]; simp [go_sem]; exact hk))
  · refine all_cons ?_ (all_cons ?_ (all_cons ?_ (all_cons ?_ (all_nil))))
    · exact core_stepAs _ (by rfl)
    · exact fun _ => coreG_call _ 28 _ _ [.const (.int .u64 1)] _ _ _ _ _ _ _ (by rfl) Try.func28 (by kernel_rfl) (by rfl) (by rfl) (wants_none) (.cons (known_const _) .nil) (HO.out)
    · exact fun _ => coreG_call _ 27 _ _ [.tmp 21, .tmp 22] _ _ _ _ _ _ _ (by rfl) Try.func27 (by kernel_rfl) (by rfl) (by rfl) (wants_none) (.cons (known_core 0 21 _ _ (of_decide_eq_true (by rfl)) (by rfl) (by rfl) (by rfl)) (.cons (known_core 1 22 _ _ (of_decide_eq_true (by rfl)) (by rfl) (by rfl) (by rfl)) .nil)) (HK.out)
    · exact core_stepAs _ (by rfl)
  intro vs y2 hc
  obtain ⟨vv0, vv1, vv2, vv3, rfl⟩ := len4 vs hc.lv
  have qq0 : vv0 = .agg #[.int .u64 (wd M 0 : Nat), .int .u64 (wd M 1 : Nat), .int .u64 (wd M 2 : Nat), .int .u64 (wd M 3 : Nat)] := by obtain ⟨xx, hx, hy⟩ := hc.ok 0 _ rfl rfl; exact (Option.some.inj (show some vv0 = some xx from hx)).trans hy
  have qq1 : vv1 = .agg #[.int .u64 (wd Z 0 : Nat), .int .u64 (wd Z 1 : Nat), .int .u64 (wd Z 2 : Nat), .int .u64 (wd Z 3 : Nat)] := by obtain ⟨xx, hx, hy⟩ := hc.ok 1 _ rfl rfl; exact (Option.some.inj (show some vv1 = some xx from hx)).trans hy
  have qq2 : vv2 = .int .i64 k := by obtain ⟨xx, hx, hy⟩ := hc.ok 2 _ rfl rfl; exact (Option.some.inj (show some vv2 = some xx from hx)).trans hy
  have qq3 : vv3 = .bool false := by obtain ⟨xx, hx, hy⟩ := hc.ok 3 _ rfl rfl; exact (Option.some.inj (show some vv3 = some xx from hx)).trans hy
  have BZ := hc.bel
  clear hc
  have Narr := Farr.out.on BZ
  have Nm := Fm.out.on BZ
  have NB := bel_tr BW.out BZ
  clear BW BZ Farr Fm
  subst qq0 qq1 qq2 qq3
  simp only [List.map_cons, List.map_nil, over, Act.put, List.setIfInBounds_toArray, List.set_cons_zero, List.set_cons_succ]
  refine wpAnyH_done (by kernel_rfl) ?_ _
  refine NoPanic.normal ?_
  have Farr := Lib.hid Narr
  have Fm := Lib.hid Nm
  have BW := Lib.hid NB
  clear NB Narr Nm
  have Larr := Farr.out.lt
  have carr0 : y2.cell? ⟨garr, 0, none⟩ = some (.int .u64 (wd X 0 : Nat)) := Farr.out.cell 0
  have carr1 : y2.cell? ⟨garr, 1, none⟩ = some (.int .u64 (wd X 1 : Nat)) := Farr.out.cell 1
  have carr2 : y2.cell? ⟨garr, 2, none⟩ = some (.int .u64 (wd X 2 : Nat)) := Farr.out.cell 2
  have carr3 : y2.cell? ⟨garr, 3, none⟩ = some (.int .u64 (wd X 3 : Nat)) := Farr.out.cell 3
  have carr4 : y2.cell? ⟨garr, 4, none⟩ = some (.int .u64 (wd Y 0 : Nat)) := Farr.out.cell 4
  have carr5 : y2.cell? ⟨garr, 5, none⟩ = some (.int .u64 (wd Y 1 : Nat)) := Farr.out.cell 5
  have carr6 : y2.cell? ⟨garr, 6, none⟩ = some (.int .u64 (wd Y 2 : Nat)) := Farr.out.cell 6
  have carr7 : y2.cell? ⟨garr, 7, none⟩ = some (.int .u64 (wd Y 3 : Nat)) := Farr.out.cell 7
  have Lm := Fm.out.lt
  have cm0 : y2.cell? ⟨gm, 0, none⟩ = some (.int .u64 (wd M 0 : Nat)) := Fm.out.cell 0
  have cm1 : y2.cell? ⟨gm, 1, none⟩ = some (.int .u64 (wd M 1 : Nat)) := Fm.out.cell 1
  have cm2 : y2.cell? ⟨gm, 2, none⟩ = some (.int .u64 (wd M 2 : Nat)) := Fm.out.cell 2
  have cm3 : y2.cell? ⟨gm, 3, none⟩ = some (.int .u64 (wd M 3 : Nat)) := Fm.out.cell 3
  go_wp2_with fail
  clear Larr carr0 carr1 carr2 carr3 carr4 carr5 carr6 carr7 Lm cm0 cm1 cm2 cm3
  refine (HB1.out _).mono ?_
  rintro e v3 ⟨rfl, z3⟩
  have Narr := Lib.hid (Farr.out.on z3)
  have Nm := Lib.hid (Fm.out.on z3)
  have NB := Lib.hid (bel_tr BW.out z3)
  clear BW z3 Farr Fm
  have Farr := Narr
  have Fm := Nm
  have BW := NB
  clear NB Narr Nm
  have Larr := Farr.out.lt
  have carr0 : v3.cell? ⟨garr, 0, none⟩ = some (.int .u64 (wd X 0 : Nat)) := Farr.out.cell 0
  have carr1 : v3.cell? ⟨garr, 1, none⟩ = some (.int .u64 (wd X 1 : Nat)) := Farr.out.cell 1
  have carr2 : v3.cell? ⟨garr, 2, none⟩ = some (.int .u64 (wd X 2 : Nat)) := Farr.out.cell 2
  have carr3 : v3.cell? ⟨garr, 3, none⟩ = some (.int .u64 (wd X 3 : Nat)) := Farr.out.cell 3
  have carr4 : v3.cell? ⟨garr, 4, none⟩ = some (.int .u64 (wd Y 0 : Nat)) := Farr.out.cell 4
  have carr5 : v3.cell? ⟨garr, 5, none⟩ = some (.int .u64 (wd Y 1 : Nat)) := Farr.out.cell 5
  have carr6 : v3.cell? ⟨garr, 6, none⟩ = some (.int .u64 (wd Y 2 : Nat)) := Farr.out.cell 6
  have carr7 : v3.cell? ⟨garr, 7, none⟩ = some (.int .u64 (wd Y 3 : Nat)) := Farr.out.cell 7
  have Lm := Fm.out.lt
  have cm0 : v3.cell? ⟨gm, 0, none⟩ = some (.int .u64 (wd M 0 : Nat)) := Fm.out.cell 0
  have cm1 : v3.cell? ⟨gm, 1, none⟩ = some (.int .u64 (wd M 1 : Nat)) := Fm.out.cell 1
  have cm2 : v3.cell? ⟨gm, 2, none⟩ = some (.int .u64 (wd M 2 : Nat)) := Fm.out.cell 2
  have cm3 : v3.cell? ⟨gm, 3, none⟩ = some (.int .u64 (wd M 3 : Nat)) := Fm.out.cell 3
  go_wp2_with fail
  clear Larr carr0 carr1 carr2 carr3 carr4 carr5 carr6 carr7 Lm cm0 cm1 cm2 cm3
  have Na : At (v3.alloc (.cells #[.int .u64 (wd a 0 : Nat), .int .u64 (wd a 1 : Nat), .int .u64 (wd a 2 : Nat), .int .u64 (wd a 3 : Nat)] 24)) (v3.heap.size) 24 #[.int .u64 (wd a 0 : Nat), .int .u64 (wd a 1 : Nat), .int .u64 (wd a 2 : Nat), .int .u64 (wd a 3 : Nat)] := At.at_ _ _ _ _ (by simp)
  have Narr : At (v3.alloc (.cells #[.int .u64 (wd a 0 : Nat), .int .u64 (wd a 1 : Nat), .int .u64 (wd a 2 : Nat), .int .u64 (wd a 3 : Nat)] 24)) garr 43 #[.int .u64 (wd X 0 : Nat), .int .u64 (wd X 1 : Nat), .int .u64 (wd X 2 : Nat), .int .u64 (wd X 3 : Nat), .int .u64 (wd Y 0 : Nat), .int .u64 (wd Y 1 : Nat), .int .u64 (wd Y 2 : Nat), .int .u64 (wd Y 3 : Nat)] := Farr.out.alloc _
  have Nm : At (v3.alloc (.cells #[.int .u64 (wd a 0 : Nat), .int .u64 (wd a 1 : Nat), .int .u64 (wd a 2 : Nat), .int .u64 (wd a 3 : Nat)] 24)) gm 24 #[.int .u64 (wd M 0 : Nat), .int .u64 (wd M 1 : Nat), .int .u64 (wd M 2 : Nat), .int .u64 (wd M 3 : Nat)] := Fm.out.alloc _
  have NB : Below w.heap.size w (v3.alloc (.cells #[.int .u64 (wd a 0 : Nat), .int .u64 (wd a 1 : Nat), .int .u64 (wd a 2 : Nat), .int .u64 (wd a 3 : Nat)] 24)) := gr_alloc BW.out _
  clear BW Farr Fm
  generalize (v3.alloc (.cells #[.int .u64 (wd a 0 : Nat), .int .u64 (wd a 1 : Nat), .int .u64 (wd a 2 : Nat), .int .u64 (wd a 3 : Nat)] 24)) = W4 at *
  generalize v3.heap.size = ga at *
  have Farr := Lib.hid Narr
  have Fm := Lib.hid Nm
  have Fa := Lib.hid Na
  have BW := Lib.hid NB
  clear NB Narr Nm Na
  refine (HB2.out _).mono ?_
  rintro e v5 ⟨rfl, z5⟩
  have Narr := Lib.hid (Farr.out.on z5)
  have Nm := Lib.hid (Fm.out.on z5)
  have Na := Lib.hid (Fa.out.on z5)
  have NB := Lib.hid (bel_tr BW.out z5)
  clear BW z5 Farr Fm Fa
  have Farr := Narr
  have Fm := Nm
  have Fa := Na
  have BW := NB
  clear NB Narr Nm Na
  have La := Fa.out.lt
  have ca0 : v5.cell? ⟨ga, 0, none⟩ = some (.int .u64 (wd a 0 : Nat)) := Fa.out.cell 0
  have ca1 : v5.cell? ⟨ga, 1, none⟩ = some (.int .u64 (wd a 1 : Nat)) := Fa.out.cell 1
  have ca2 : v5.cell? ⟨ga, 2, none⟩ = some (.int .u64 (wd a 2 : Nat)) := Fa.out.cell 2
  have ca3 : v5.cell? ⟨ga, 3, none⟩ = some (.int .u64 (wd a 3 : Nat)) := Fa.out.cell 3
  have Lm := Fm.out.lt
  have cm0 : v5.cell? ⟨gm, 0, none⟩ = some (.int .u64 (wd M 0 : Nat)) := Fm.out.cell 0
  have cm1 : v5.cell? ⟨gm, 1, none⟩ = some (.int .u64 (wd M 1 : Nat)) := Fm.out.cell 1
  have cm2 : v5.cell? ⟨gm, 2, none⟩ = some (.int .u64 (wd M 2 : Nat)) := Fm.out.cell 2
  have cm3 : v5.cell? ⟨gm, 3, none⟩ = some (.int .u64 (wd M 3 : Nat)) := Fm.out.cell 3
  go_wp2_with fail
  clear La ca0 ca1 ca2 ca3 Lm cm0 cm1 cm2 cm3
  have Nb : At (v5.alloc (.cells #[.int .u64 (wd b 0 : Nat), .int .u64 (wd b 1 : Nat), .int .u64 (wd b 2 : Nat), .int .u64 (wd b 3 : Nat)] 24)) (v5.heap.size) 24 #[.int .u64 (wd b 0 : Nat), .int .u64 (wd b 1 : Nat), .int .u64 (wd b 2 : Nat), .int .u64 (wd b 3 : Nat)] := At.at_ _ _ _ _ (by simp)
  have Narr : At (v5.alloc (.cells #[.int .u64 (wd b 0 : Nat), .int .u64 (wd b 1 : Nat), .int .u64 (wd b 2 : Nat), .int .u64 (wd b 3 : Nat)] 24)) garr 43 #[.int .u64 (wd X 0 : Nat), .int .u64 (wd X 1 : Nat), .int .u64 (wd X 2 : Nat), .int .u64 (wd X 3 : Nat), .int .u64 (wd Y 0 : Nat), .int .u64 (wd Y 1 : Nat), .int .u64 (wd Y 2 : Nat), .int .u64 (wd Y 3 : Nat)] := Farr.out.alloc _
  have Nm : At (v5.alloc (.cells #[.int .u64 (wd b 0 : Nat), .int .u64 (wd b 1 : Nat), .int .u64 (wd b 2 : Nat), .int .u64 (wd b 3 : Nat)] 24)) gm 24 #[.int .u64 (wd M 0 : Nat), .int .u64 (wd M 1 : Nat), .int .u64 (wd M 2 : Nat), .int .u64 (wd M 3 : Nat)] := Fm.out.alloc _
  have Na : At (v5.alloc (.cells #[.int .u64 (wd b 0 : Nat), .int .u64 (wd b 1 : Nat), .int .u64 (wd b 2 : Nat), .int .u64 (wd b 3 : Nat)] 24)) ga 24 #[.int .u64 (wd a 0 : Nat), .int .u64 (wd a 1 : Nat), .int .u64 (wd a 2 : Nat), .int .u64 (wd a 3 : Nat)] := Fa.out.alloc _
  have NB : Below w.heap.size w (v5.alloc (.cells #[.int .u64 (wd b 0 : Nat), .int .u64 (wd b 1 : Nat), .int .u64 (wd b 2 : Nat), .int .u64 (wd b 3 : Nat)] 24)) := gr_alloc BW.out _
  clear BW Farr Fm Fa
  generalize (v5.alloc (.cells #[.int .u64 (wd b 0 : Nat), .int .u64 (wd b 1 : Nat), .int .u64 (wd b 2 : Nat), .int .u64 (wd b 3 : Nat)] 24)) = W6 at *
  generalize v5.heap.size = gb at *
  have Farr := Lib.hid Narr
  have Fm := Lib.hid Nm
  have Fa := Lib.hid Na
  have Fb := Lib.hid Nb
  have BW := Lib.hid NB
  clear NB Narr Nm Na Nb
  clear Farr
  refine (HI1.out _).mono ?_
  rintro e v7 ⟨rfl, z7⟩
  have Nm := Lib.hid (Fm.out.on z7)
  have Na := Lib.hid (Fa.out.on z7)
  have Nb := Lib.hid (Fb.out.on z7)
  have NB := Lib.hid (bel_tr BW.out z7)
  clear BW z7 Fm Fa Fb
  have Fm := Nm
  have Fa := Na
  have Fb := Nb
  have BW := NB
  clear NB Nm Na Nb
  have Lb := Fb.out.lt
  have cb0 : v7.cell? ⟨gb, 0, none⟩ = some (.int .u64 (wd b 0 : Nat)) := Fb.out.cell 0
  have cb1 : v7.cell? ⟨gb, 1, none⟩ = some (.int .u64 (wd b 1 : Nat)) := Fb.out.cell 1
  have cb2 : v7.cell? ⟨gb, 2, none⟩ = some (.int .u64 (wd b 2 : Nat)) := Fb.out.cell 2
  have cb3 : v7.cell? ⟨gb, 3, none⟩ = some (.int .u64 (wd b 3 : Nat)) := Fb.out.cell 3
  have Lm := Fm.out.lt
  have cm0 : v7.cell? ⟨gm, 0, none⟩ = some (.int .u64 (wd M 0 : Nat)) := Fm.out.cell 0
  have cm1 : v7.cell? ⟨gm, 1, none⟩ = some (.int .u64 (wd M 1 : Nat)) := Fm.out.cell 1
  have cm2 : v7.cell? ⟨gm, 2, none⟩ = some (.int .u64 (wd M 2 : Nat)) := Fm.out.cell 2
  have cm3 : v7.cell? ⟨gm, 3, none⟩ = some (.int .u64 (wd M 3 : Nat)) := Fm.out.cell 3
  go_wp2_with fail
  clear Lb cb0 cb1 cb2 cb3 Lm cm0 cm1 cm2 cm3
  have Nx : At (v7.alloc (.cells #[.int .u64 (wd x 0 : Nat), .int .u64 (wd x 1 : Nat), .int .u64 (wd x 2 : Nat), .int .u64 (wd x 3 : Nat)] 24)) (v7.heap.size) 24 #[.int .u64 (wd x 0 : Nat), .int .u64 (wd x 1 : Nat), .int .u64 (wd x 2 : Nat), .int .u64 (wd x 3 : Nat)] := At.at_ _ _ _ _ (by simp)
  have Nm : At (v7.alloc (.cells #[.int .u64 (wd x 0 : Nat), .int .u64 (wd x 1 : Nat), .int .u64 (wd x 2 : Nat), .int .u64 (wd x 3 : Nat)] 24)) gm 24 #[.int .u64 (wd M 0 : Nat), .int .u64 (wd M 1 : Nat), .int .u64 (wd M 2 : Nat), .int .u64 (wd M 3 : Nat)] := Fm.out.alloc _
  have Na : At (v7.alloc (.cells #[.int .u64 (wd x 0 : Nat), .int .u64 (wd x 1 : Nat), .int .u64 (wd x 2 : Nat), .int .u64 (wd x 3 : Nat)] 24)) ga 24 #[.int .u64 (wd a 0 : Nat), .int .u64 (wd a 1 : Nat), .int .u64 (wd a 2 : Nat), .int .u64 (wd a 3 : Nat)] := Fa.out.alloc _
  have Nb : At (v7.alloc (.cells #[.int .u64 (wd x 0 : Nat), .int .u64 (wd x 1 : Nat), .int .u64 (wd x 2 : Nat), .int .u64 (wd x 3 : Nat)] 24)) gb 24 #[.int .u64 (wd b 0 : Nat), .int .u64 (wd b 1 : Nat), .int .u64 (wd b 2 : Nat), .int .u64 (wd b 3 : Nat)] := Fb.out.alloc _
  have NB : Below w.heap.size w (v7.alloc (.cells #[.int .u64 (wd x 0 : Nat), .int .u64 (wd x 1 : Nat), .int .u64 (wd x 2 : Nat), .int .u64 (wd x 3 : Nat)] 24)) := gr_alloc BW.out _
  clear BW Fm Fa Fb
  generalize (v7.alloc (.cells #[.int .u64 (wd x 0 : Nat), .int .u64 (wd x 1 : Nat), .int .u64 (wd x 2 : Nat), .int .u64 (wd x 3 : Nat)] 24)) = W8 at *
  generalize v7.heap.size = gx at *
  have Fm := Lib.hid Nm
  have Fa := Lib.hid Na
  have Fb := Lib.hid Nb
  have Fx := Lib.hid Nx
  have BW := Lib.hid NB
  clear NB Nm Na Nb Nx
  refine (HI2.out _).mono ?_
  rintro e v9 ⟨rfl, z9⟩
  have Nm := Lib.hid (Fm.out.on z9)
  have Na := Lib.hid (Fa.out.on z9)
  have Nb := Lib.hid (Fb.out.on z9)
  have Nx := Lib.hid (Fx.out.on z9)
  have NB := Lib.hid (bel_tr BW.out z9)
  clear BW z9 Fm Fa Fb Fx
  have Fm := Nm
  have Fa := Na
  have Fb := Nb
  have Fx := Nx
  have BW := NB
  clear NB Nm Na Nb Nx
  go_wp2_with fail
  have Ny : At (v9.alloc (.cells #[.int .u64 (wd y 0 : Nat), .int .u64 (wd y 1 : Nat), .int .u64 (wd y 2 : Nat), .int .u64 (wd y 3 : Nat)] 24)) (v9.heap.size) 24 #[.int .u64 (wd y 0 : Nat), .int .u64 (wd y 1 : Nat), .int .u64 (wd y 2 : Nat), .int .u64 (wd y 3 : Nat)] := At.at_ _ _ _ _ (by simp)
  have Nm : At (v9.alloc (.cells #[.int .u64 (wd y 0 : Nat), .int .u64 (wd y 1 : Nat), .int .u64 (wd y 2 : Nat), .int .u64 (wd y 3 : Nat)] 24)) gm 24 #[.int .u64 (wd M 0 : Nat), .int .u64 (wd M 1 : Nat), .int .u64 (wd M 2 : Nat), .int .u64 (wd M 3 : Nat)] := Fm.out.alloc _
  have Na : At (v9.alloc (.cells #[.int .u64 (wd y 0 : Nat), .int .u64 (wd y 1 : Nat), .int .u64 (wd y 2 : Nat), .int .u64 (wd y 3 : Nat)] 24)) ga 24 #[.int .u64 (wd a 0 : Nat), .int .u64 (wd a 1 : Nat), .int .u64 (wd a 2 : Nat), .int .u64 (wd a 3 : Nat)] := Fa.out.alloc _
  have Nb : At (v9.alloc (.cells #[.int .u64 (wd y 0 : Nat), .int .u64 (wd y 1 : Nat), .int .u64 (wd y 2 : Nat), .int .u64 (wd y 3 : Nat)] 24)) gb 24 #[.int .u64 (wd b 0 : Nat), .int .u64 (wd b 1 : Nat), .int .u64 (wd b 2 : Nat), .int .u64 (wd b 3 : Nat)] := Fb.out.alloc _
  have Nx : At (v9.alloc (.cells #[.int .u64 (wd y 0 : Nat), .int .u64 (wd y 1 : Nat), .int .u64 (wd y 2 : Nat), .int .u64 (wd y 3 : Nat)] 24)) gx 24 #[.int .u64 (wd x 0 : Nat), .int .u64 (wd x 1 : Nat), .int .u64 (wd x 2 : Nat), .int .u64 (wd x 3 : Nat)] := Fx.out.alloc _
  have NB : Below w.heap.size w (v9.alloc (.cells #[.int .u64 (wd y 0 : Nat), .int .u64 (wd y 1 : Nat), .int .u64 (wd y 2 : Nat), .int .u64 (wd y 3 : Nat)] 24)) := gr_alloc BW.out _
  clear BW Fm Fa Fb Fx
  generalize (v9.alloc (.cells #[.int .u64 (wd y 0 : Nat), .int .u64 (wd y 1 : Nat), .int .u64 (wd y 2 : Nat), .int .u64 (wd y 3 : Nat)] 24)) = W10 at *
  generalize v9.heap.size = gy at *
  have Fm := Lib.hid Nm
  have Fa := Lib.hid Na
  have Fb := Lib.hid Nb
  have Fx := Lib.hid Nx
  have Fy := Lib.hid Ny
  have BW := Lib.hid NB
  clear NB Nm Na Nb Nx Ny
  try simp only [List.append_eq, List.cons_append, List.nil_append]
  refine wp_region_noPanic ?_
  refine wp_region_held_drew (S := fun w' => At w' ga 24 #[.int .u64 (wd a 0 : Nat), .int .u64 (wd a 1 : Nat), .int .u64 (wd a 2 : Nat), .int .u64 (wd a 3 : Nat)] ∧ At w' gm 24 #[.int .u64 (wd M 0 : Nat), .int .u64 (wd M 1 : Nat), .int .u64 (wd M 2 : Nat), .int .u64 (wd M 3 : Nat)] ∧ At w' gx 24 #[.int .u64 (wd x 0 : Nat), .int .u64 (wd x 1 : Nat), .int .u64 (wd x 2 : Nat), .int .u64 (wd x 3 : Nat)]) (by kernel_rfl) (⟨Fa.out.drew, Fm.out.drew, Fx.out.drew⟩) (fun _ => ?_)
  refine wpAnyH_cores (fuel := 0) (⟨0, 46, [], Kind.val (.int .i64 0), true⟩ :: ⟨1, 47, [0], Kind.val (.bool true), true⟩ :: ⟨2, 48, [1], Kind.val (.agg #[.int .u64 (wd a 0 : Nat), .int .u64 (wd a 1 : Nat), .int .u64 (wd a 2 : Nat), .int .u64 (wd a 3 : Nat)]), true⟩ :: ⟨3, 49, [2], Kind.val (.agg #[.int .u64 (wd M 0 : Nat), .int .u64 (wd M 1 : Nat), .int .u64 (wd M 2 : Nat), .int .u64 (wd M 3 : Nat)]), true⟩ :: ⟨4, 50, [2, 3], Kind.val (.agg #[.int .u64 (wd Z 0 : Nat), .int .u64 (wd Z 1 : Nat), .int .u64 (wd Z 2 : Nat), .int .u64 (wd Z 3 : Nat)]), false⟩ :: ⟨5, 51, [4], Kind.val (.agg #[.int .u64 (wd Z 0 : Nat), .int .u64 (wd Z 1 : Nat), .int .u64 (wd Z 2 : Nat), .int .u64 (wd Z 3 : Nat)]), false⟩ :: ⟨6, 52, [4, 5], Kind.val (.bool true), true⟩ :: ⟨7, 53, [1, 6], Kind.val (.bool false), true⟩ :: ⟨8, 54, [7], Kind.val (.bool false), true⟩ :: ⟨9, 55, [8], Kind.val (.int .i64 0), true⟩ :: ⟨10, 56, [8, 9], Kind.val (.bool false), true⟩ :: ⟨11, 57, [8, 10], Kind.val (.bool false), true⟩ :: ⟨12, 58, [11], Kind.val (undef), true⟩ :: ⟨13, 59, [11, 12], Kind.val (undef), true⟩ :: ⟨14, 60, [11, 13], Kind.val (undef), true⟩ :: ⟨15, 61, [14], Kind.val (undef), true⟩ :: ⟨16, 62, [14, 15], Kind.val (undef), true⟩ :: ⟨17, 63, [14, 15, 16], Kind.val (undef), true⟩ :: ⟨18, 64, [11, 14, 17], Kind.val (undef), true⟩ :: ⟨19, 65, [8, 11, 18], Kind.val (.bool false), true⟩ :: ⟨20, 66, [8, 19], Kind.val (.bool false), true⟩ :: []) _ _ W10 _ ?_ ?_ ?_ ?_ ?_ ?_ ?_ ?_ ?_ ?_ ?_
  · rfl
  · kernel_rfl
  · exact of_decide_eq_true (by kernel_rfl)
  · exact all_cons ⟨_, by rfl, by rfl⟩ (all_cons ⟨_, by rfl, by rfl⟩ (all_cons ⟨_, by rfl, by rfl⟩ (all_cons ⟨_, by rfl, by rfl⟩ (all_cons ⟨_, by rfl, by rfl⟩ (all_cons ⟨_, by rfl, by rfl⟩ (all_cons ⟨_, by rfl, by rfl⟩ (all_cons ⟨_, by rfl, by rfl⟩ (all_cons ⟨_, by rfl, by rfl⟩ (all_cons ⟨_, by rfl, by rfl⟩ (all_cons ⟨_, by rfl, by rfl⟩ (all_cons ⟨_, by rfl, by rfl⟩ (all_cons ⟨_, by rfl, by rfl⟩ (all_cons ⟨_, by rfl, by rfl⟩ (all_cons ⟨_, by rfl, by rfl⟩ (all_cons ⟨_, by rfl, by rfl⟩ (all_cons ⟨_, by rfl, by rfl⟩ (all_cons ⟨_, by rfl, by rfl⟩ (all_cons ⟨_, by rfl, by rfl⟩ (all_cons ⟨_, by rfl, by rfl⟩ (all_cons ⟨_, by rfl, by rfl⟩ (all_nil)))))))))))))))))))))
  · exact fun _ hb => ⟨Fa.out.on hb, Fm.out.on hb, Fx.out.on hb⟩
  · exact (Below.refl _ _).drew
  · kernel_rfl
  · exact fun _ _ _ _ _ h => h
  · refine all_cons ?_ (all_cons ?_ (all_cons ?_ (all_cons ?_ (all_cons ?_ (all_cons ?_ (all_cons ?_ (all_cons ?_ (all_cons ?_ (all_cons ?_ (all_cons ?_ (all_cons ?_ (all_cons ?_ (all_cons ?_ (all_cons ?_ (all_cons ?_ (all_cons ?_ (all_cons ?_ (all_cons ?_ (all_cons ?_ (all_cons ?_ (all_nil)))))))))))))))))))))
    · exact coreG_move _ _ _ _ _ _ _ (by rfl) (by rfl) (wants_none) (known_old 8 _ (of_decide_eq_true (by rfl)) (by rfl))
    · exact coreG_bin _ _ _ _ _ _ _ _ _ _ _ _ _ (by rfl) (by rfl) (wants_none) (known_core 0 46 _ _ (of_decide_eq_true (by rfl)) (by rfl) (by rfl) (by rfl)) (known_const _) ((fun ρ w hx hy => by simp only [execOp, hx, hy]; simp [go_sem]))
    · exact coreG_loadP _ _ _ _ _ _ ga _ _ _ _ (by rfl) (by rfl) (wants_none) (known_old 5 _ (of_decide_eq_true (by rfl)) (by rfl)) (fun _ hs => hs.1)
    · exact coreG_loadP _ _ _ _ _ _ gm _ _ _ _ (by rfl) (by rfl) (wants_none) (known_old 3 _ (of_decide_eq_true (by rfl)) (by rfl)) (fun _ hs => hs.2.1)
    · exact core_pureAs _ (by rfl)
    · exact core_pureAs _ (by rfl)
    · exact coreG_bin _ _ _ _ _ _ _ _ _ _ _ _ _ (by rfl) (by rfl) (wants_none) (known_core 4 50 _ _ (of_decide_eq_true (by rfl)) (by rfl) (by rfl) (by rfl)) (known_core 5 51 _ _ (of_decide_eq_true (by rfl)) (by rfl) (by rfl) (by rfl)) (eql_run true _ _ _ _ _ _ _ _ _ _ _ _ _ _ _ (eqY Z))
    · exact coreG_bin _ _ _ _ _ _ _ _ _ _ _ _ _ (by rfl) (by rfl) (wants_none) (known_core 1 47 _ _ (of_decide_eq_true (by rfl)) (by rfl) (by rfl) (by rfl)) (known_core 6 52 _ _ (of_decide_eq_true (by rfl)) (by rfl) (by rfl) (by rfl)) ((fun ρ w hx hy => by simp only [execOp, hx, hy]; simp [go_sem]))
    · exact coreG_move _ _ _ _ _ _ _ (by rfl) (by rfl) (wants_none) (known_core 7 53 _ _ (of_decide_eq_true (by rfl)) (by rfl) (by rfl) (by rfl))
    · exact coreG_move _ _ _ _ _ _ _ (by rfl) (by rfl) (wants_core 8 54 8 _ _ _ (by rfl) (by rfl) (by rfl) (known_core 8 54 _ _ (of_decide_eq_true (by rfl)) (by rfl) (by rfl) (by rfl)) _ (by rfl)) (known_old 8 _ (of_decide_eq_true (by rfl)) (by rfl))
    · exact coreG_bin _ _ _ _ _ _ _ _ _ _ _ _ _ (by rfl) (by rfl) (wants_core 8 54 8 _ _ _ (by rfl) (by rfl) (by rfl) (known_core 8 54 _ _ (of_decide_eq_true (by rfl)) (by rfl) (by rfl) (by rfl)) _ (by rfl)) (known_core 9 55 _ _ (of_decide_eq_true (by rfl)) (by rfl) (by rfl) (by rfl)) (known_const _) ((fun ρ w hx hy => by simp only [execOp, hx, hy]; simp [go_sem]))
    · exact coreG_move _ _ _ _ _ _ _ (by rfl) (by rfl) (wants_core 8 54 8 _ _ _ (by rfl) (by rfl) (by rfl) (known_core 8 54 _ _ (of_decide_eq_true (by rfl)) (by rfl) (by rfl) (by rfl)) _ (by rfl)) (known_core 10 56 _ _ (of_decide_eq_true (by rfl)) (by rfl) (by rfl) (by rfl))
    · exact coreG_skip _ _ _ _ _ _ (by rfl) (by rfl) (wants_core 11 57 11 _ _ _ (by rfl) (by rfl) (by rfl) (known_core 11 57 _ _ (of_decide_eq_true (by rfl)) (by rfl) (by rfl) (by rfl)) _ (by rfl))
    · exact coreG_skip _ _ _ _ _ _ (by rfl) (by rfl) (wants_core 11 57 11 _ _ _ (by rfl) (by rfl) (by rfl) (known_core 11 57 _ _ (of_decide_eq_true (by rfl)) (by rfl) (by rfl) (by rfl)) _ (by rfl))
    · exact coreG_skip _ _ _ _ _ _ (by rfl) (by rfl) (wants_core 11 57 11 _ _ _ (by rfl) (by rfl) (by rfl) (known_core 11 57 _ _ (of_decide_eq_true (by rfl)) (by rfl) (by rfl) (by rfl)) _ (by rfl))
    · exact coreG_skip _ _ _ _ _ _ (by rfl) (by rfl) (wants_undef 14 60 14 _ _ (by rfl) (by rfl) (by rfl) (known_core 14 60 _ _ (of_decide_eq_true (by rfl)) (by rfl) (by rfl) (by rfl)))
    · exact coreG_skip _ _ _ _ _ _ (by rfl) (by rfl) (wants_undef 14 60 14 _ _ (by rfl) (by rfl) (by rfl) (known_core 14 60 _ _ (of_decide_eq_true (by rfl)) (by rfl) (by rfl) (by rfl)))
    · exact coreG_skip _ _ _ _ _ _ (by rfl) (by rfl) (wants_undef 14 60 14 _ _ (by rfl) (by rfl) (by rfl) (known_core 14 60 _ _ (of_decide_eq_true (by rfl)) (by rfl) (by rfl) (by rfl)))
    · exact coreG_skip _ _ _ _ _ _ (by rfl) (by rfl) (wants_core 11 57 11 _ _ _ (by rfl) (by rfl) (by rfl) (known_core 11 57 _ _ (of_decide_eq_true (by rfl)) (by rfl) (by rfl) (by rfl)) _ (by rfl))
    · exact coreG_pick _ _ _ _ _ _ _ _ _ _ _ _ (by rfl) (by rfl) (wants_core 8 54 8 _ _ _ (by rfl) (by rfl) (by rfl) (known_core 8 54 _ _ (of_decide_eq_true (by rfl)) (by rfl) (by rfl) (by rfl)) _ (by rfl)) (known_core 11 57 _ _ (of_decide_eq_true (by rfl)) (by rfl) (by rfl) (by rfl)) (known_core 18 64 _ _ (of_decide_eq_true (by rfl)) (by rfl) (by rfl) (by rfl)) (known_const _) (by rfl)
    · exact coreG_pick _ _ _ _ _ _ _ _ _ _ _ _ (by rfl) (by rfl) (wants_none) (known_core 8 54 _ _ (of_decide_eq_true (by rfl)) (by rfl) (by rfl) (by rfl)) (known_const _) (known_core 19 65 _ _ (of_decide_eq_true (by rfl)) (by rfl) (by rfl) (by rfl)) (by rfl)
  · refine all_cons ?_ (all_cons ?_ (all_cons ?_ (all_cons ?_ (all_cons ?_ (all_cons ?_ (all_cons ?_ (all_cons ?_ (all_cons ?_ (all_cons ?_ (all_cons ?_ (all_cons ?_ (all_cons ?_ (all_cons ?_ (all_cons ?_ (all_cons ?_ (all_cons ?_ (all_cons ?_ (all_cons ?_ (all_cons ?_ (all_cons ?_ (all_nil)))))))))))))))))))))
    · exact core_stepAs _ (by rfl)
    · exact core_stepAs _ (by rfl)
    · exact core_stepAs _ (by rfl)
    · exact core_stepAs _ (by rfl)
    · exact fun _ => coreG_call _ 15 _ _ [.tmp 48, .tmp 49] _ _ _ _ _ _ _ (by rfl) Try.func15 (by kernel_rfl) (by rfl) (by rfl) (wants_none) (.cons (known_core 2 48 _ _ (of_decide_eq_true (by rfl)) (by rfl) (by rfl) (by rfl)) (.cons (known_core 3 49 _ _ (of_decide_eq_true (by rfl)) (by rfl) (by rfl) (by rfl)) .nil)) (HCM.out)
    · exact fun _ => coreG_call _ 28 _ _ [.const (.int .u64 1)] _ _ _ _ _ _ _ (by rfl) Try.func28 (by kernel_rfl) (by rfl) (by rfl) (wants_none) (.cons (known_const _) .nil) (HO.out)
    · exact core_stepAs _ (by rfl)
    · exact core_stepAs _ (by rfl)
    · exact core_stepAs _ (by rfl)
    · exact core_stepAs _ (by rfl)
    · exact core_stepAs _ (by rfl)
    · exact core_stepAs _ (by rfl)
    · exact core_stepAs _ (by rfl)
    · exact core_stepAs _ (by rfl)
    · exact core_stepAs _ (by rfl)
    · exact core_stepAs _ (by rfl)
    · exact core_stepAs _ (by rfl)
    · exact core_stepAs _ (by rfl)
    · exact core_stepAs _ (by rfl)
    · exact core_stepAs _ (by rfl)
    · exact core_stepAs _ (by rfl)
  intro vs y11 hc
  obtain ⟨vv0, vv1, vv2, vv3, vv4, vv5, vv6, vv7, vv8, vv9, vv10, vv11, vv12, vv13, vv14, vv15, vv16, vv17, vv18, vv19, vv20, rfl⟩ := len21 vs hc.lv
  have qq0 : vv0 = .int .i64 0 := by obtain ⟨xx, hx, hy⟩ := hc.ok 0 _ rfl rfl; exact (Option.some.inj (show some vv0 = some xx from hx)).trans hy
  have qq1 : vv1 = .bool true := by obtain ⟨xx, hx, hy⟩ := hc.ok 1 _ rfl rfl; exact (Option.some.inj (show some vv1 = some xx from hx)).trans hy
  have qq2 : vv2 = .agg #[.int .u64 (wd a 0 : Nat), .int .u64 (wd a 1 : Nat), .int .u64 (wd a 2 : Nat), .int .u64 (wd a 3 : Nat)] := by obtain ⟨xx, hx, hy⟩ := hc.ok 2 _ rfl rfl; exact (Option.some.inj (show some vv2 = some xx from hx)).trans hy
  have qq3 : vv3 = .agg #[.int .u64 (wd M 0 : Nat), .int .u64 (wd M 1 : Nat), .int .u64 (wd M 2 : Nat), .int .u64 (wd M 3 : Nat)] := by obtain ⟨xx, hx, hy⟩ := hc.ok 3 _ rfl rfl; exact (Option.some.inj (show some vv3 = some xx from hx)).trans hy
  have qq4 : vv4 = .agg #[.int .u64 (wd Z 0 : Nat), .int .u64 (wd Z 1 : Nat), .int .u64 (wd Z 2 : Nat), .int .u64 (wd Z 3 : Nat)] := by obtain ⟨xx, hx, hy⟩ := hc.ok 4 _ rfl rfl; exact (Option.some.inj (show some vv4 = some xx from hx)).trans hy
  have qq5 : vv5 = .agg #[.int .u64 (wd Z 0 : Nat), .int .u64 (wd Z 1 : Nat), .int .u64 (wd Z 2 : Nat), .int .u64 (wd Z 3 : Nat)] := by obtain ⟨xx, hx, hy⟩ := hc.ok 5 _ rfl rfl; exact (Option.some.inj (show some vv5 = some xx from hx)).trans hy
  have qq6 : vv6 = .bool true := by obtain ⟨xx, hx, hy⟩ := hc.ok 6 _ rfl rfl; exact (Option.some.inj (show some vv6 = some xx from hx)).trans hy
  have qq7 : vv7 = .bool false := by obtain ⟨xx, hx, hy⟩ := hc.ok 7 _ rfl rfl; exact (Option.some.inj (show some vv7 = some xx from hx)).trans hy
  have qq8 : vv8 = .bool false := by obtain ⟨xx, hx, hy⟩ := hc.ok 8 _ rfl rfl; exact (Option.some.inj (show some vv8 = some xx from hx)).trans hy
  have qq9 : vv9 = .int .i64 0 := by obtain ⟨xx, hx, hy⟩ := hc.ok 9 _ rfl rfl; exact (Option.some.inj (show some vv9 = some xx from hx)).trans hy
  have qq10 : vv10 = .bool false := by obtain ⟨xx, hx, hy⟩ := hc.ok 10 _ rfl rfl; exact (Option.some.inj (show some vv10 = some xx from hx)).trans hy
  have qq11 : vv11 = .bool false := by obtain ⟨xx, hx, hy⟩ := hc.ok 11 _ rfl rfl; exact (Option.some.inj (show some vv11 = some xx from hx)).trans hy
  have qq12 : vv12 = undef := by obtain ⟨xx, hx, hy⟩ := hc.ok 12 _ rfl rfl; exact (Option.some.inj (show some vv12 = some xx from hx)).trans hy
  have qq13 : vv13 = undef := by obtain ⟨xx, hx, hy⟩ := hc.ok 13 _ rfl rfl; exact (Option.some.inj (show some vv13 = some xx from hx)).trans hy
  have qq14 : vv14 = undef := by obtain ⟨xx, hx, hy⟩ := hc.ok 14 _ rfl rfl; exact (Option.some.inj (show some vv14 = some xx from hx)).trans hy
  have qq15 : vv15 = undef := by obtain ⟨xx, hx, hy⟩ := hc.ok 15 _ rfl rfl; exact (Option.some.inj (show some vv15 = some xx from hx)).trans hy
  have qq16 : vv16 = undef := by obtain ⟨xx, hx, hy⟩ := hc.ok 16 _ rfl rfl; exact (Option.some.inj (show some vv16 = some xx from hx)).trans hy
  have qq17 : vv17 = undef := by obtain ⟨xx, hx, hy⟩ := hc.ok 17 _ rfl rfl; exact (Option.some.inj (show some vv17 = some xx from hx)).trans hy
  have qq18 : vv18 = undef := by obtain ⟨xx, hx, hy⟩ := hc.ok 18 _ rfl rfl; exact (Option.some.inj (show some vv18 = some xx from hx)).trans hy
  have qq19 : vv19 = .bool false := by obtain ⟨xx, hx, hy⟩ := hc.ok 19 _ rfl rfl; exact (Option.some.inj (show some vv19 = some xx from hx)).trans hy
  have qq20 : vv20 = .bool false := by obtain ⟨xx, hx, hy⟩ := hc.ok 20 _ rfl rfl; exact (Option.some.inj (show some vv20 = some xx from hx)).trans hy
  have BZ := hc.bel
  clear hc
  have Nm := Fm.out.on BZ
  have Na := Fa.out.on BZ
  have Nb := Fb.out.on BZ
  have Nx := Fx.out.on BZ
  have Ny := Fy.out.on BZ
  have NB := bel_tr BW.out BZ
  clear BW BZ Fm Fa Fb Fx Fy
  subst qq0 qq1 qq2 qq3 qq4 qq5 qq6 qq7 qq8 qq9 qq10 qq11 qq12 qq13 qq14 qq15 qq16 qq17 qq18 qq19 qq20
  simp only [List.map_cons, List.map_nil, over, Act.put, List.setIfInBounds_toArray, List.set_cons_zero, List.set_cons_succ]
  refine wpAnyH_done (by kernel_rfl) ?_ _
  refine NoPanic.normal ?_
  have Fm := Lib.hid Nm
  have Fa := Lib.hid Na
  have Fb := Lib.hid Nb
  have Fx := Lib.hid Nx
  have Fy := Lib.hid Ny
  have BW := Lib.hid NB
  clear NB Nm Na Nb Nx Ny
  have La := Fa.out.lt
  have ca0 : y11.cell? ⟨ga, 0, none⟩ = some (.int .u64 (wd a 0 : Nat)) := Fa.out.cell 0
  have ca1 : y11.cell? ⟨ga, 1, none⟩ = some (.int .u64 (wd a 1 : Nat)) := Fa.out.cell 1
  have ca2 : y11.cell? ⟨ga, 2, none⟩ = some (.int .u64 (wd a 2 : Nat)) := Fa.out.cell 2
  have ca3 : y11.cell? ⟨ga, 3, none⟩ = some (.int .u64 (wd a 3 : Nat)) := Fa.out.cell 3
  have Lb := Fb.out.lt
  have cb0 : y11.cell? ⟨gb, 0, none⟩ = some (.int .u64 (wd b 0 : Nat)) := Fb.out.cell 0
  have cb1 : y11.cell? ⟨gb, 1, none⟩ = some (.int .u64 (wd b 1 : Nat)) := Fb.out.cell 1
  have cb2 : y11.cell? ⟨gb, 2, none⟩ = some (.int .u64 (wd b 2 : Nat)) := Fb.out.cell 2
  have cb3 : y11.cell? ⟨gb, 3, none⟩ = some (.int .u64 (wd b 3 : Nat)) := Fb.out.cell 3
  have Lm := Fm.out.lt
  have cm0 : y11.cell? ⟨gm, 0, none⟩ = some (.int .u64 (wd M 0 : Nat)) := Fm.out.cell 0
  have cm1 : y11.cell? ⟨gm, 1, none⟩ = some (.int .u64 (wd M 1 : Nat)) := Fm.out.cell 1
  have cm2 : y11.cell? ⟨gm, 2, none⟩ = some (.int .u64 (wd M 2 : Nat)) := Fm.out.cell 2
  have cm3 : y11.cell? ⟨gm, 3, none⟩ = some (.int .u64 (wd M 3 : Nat)) := Fm.out.cell 3
  go_wp2_with fail
  clear La ca0 ca1 ca2 ca3 Lb cb0 cb1 cb2 cb3 Lm cm0 cm1 cm2 cm3
  refine (HM1.out _).mono ?_
  rintro e v12 ⟨rfl, z12⟩
  have Nm := Lib.hid (Fm.out.on z12)
  have Na := Lib.hid (Fa.out.on z12)
  have Nb := Lib.hid (Fb.out.on z12)
  have Nx := Lib.hid (Fx.out.on z12)
  have Ny := Lib.hid (Fy.out.on z12)
  have NB := Lib.hid (bel_tr BW.out z12)
  clear BW z12 Fm Fa Fb Fx Fy
  have Fm := Nm
  have Fa := Na
  have Fb := Nb
  have Fx := Nx
  have Fy := Ny
  have BW := NB
  clear NB Nm Na Nb Nx Ny
  have Lm := Fm.out.lt
  have cm0 : v12.cell? ⟨gm, 0, none⟩ = some (.int .u64 (wd M 0 : Nat)) := Fm.out.cell 0
  have cm1 : v12.cell? ⟨gm, 1, none⟩ = some (.int .u64 (wd M 1 : Nat)) := Fm.out.cell 1
  have cm2 : v12.cell? ⟨gm, 2, none⟩ = some (.int .u64 (wd M 2 : Nat)) := Fm.out.cell 2
  have cm3 : v12.cell? ⟨gm, 3, none⟩ = some (.int .u64 (wd M 3 : Nat)) := Fm.out.cell 3
  go_wp2_with fail
  clear Lm cm0 cm1 cm2 cm3
  have Nab : At (v12.alloc (.cells #[.int .u64 (wd ab 0 : Nat), .int .u64 (wd ab 1 : Nat), .int .u64 (wd ab 2 : Nat), .int .u64 (wd ab 3 : Nat)] 24)) (v12.heap.size) 24 #[.int .u64 (wd ab 0 : Nat), .int .u64 (wd ab 1 : Nat), .int .u64 (wd ab 2 : Nat), .int .u64 (wd ab 3 : Nat)] := At.at_ _ _ _ _ (by simp)
  have Nm : At (v12.alloc (.cells #[.int .u64 (wd ab 0 : Nat), .int .u64 (wd ab 1 : Nat), .int .u64 (wd ab 2 : Nat), .int .u64 (wd ab 3 : Nat)] 24)) gm 24 #[.int .u64 (wd M 0 : Nat), .int .u64 (wd M 1 : Nat), .int .u64 (wd M 2 : Nat), .int .u64 (wd M 3 : Nat)] := Fm.out.alloc _
  have Na : At (v12.alloc (.cells #[.int .u64 (wd ab 0 : Nat), .int .u64 (wd ab 1 : Nat), .int .u64 (wd ab 2 : Nat), .int .u64 (wd ab 3 : Nat)] 24)) ga 24 #[.int .u64 (wd a 0 : Nat), .int .u64 (wd a 1 : Nat), .int .u64 (wd a 2 : Nat), .int .u64 (wd a 3 : Nat)] := Fa.out.alloc _
  have Nb : At (v12.alloc (.cells #[.int .u64 (wd ab 0 : Nat), .int .u64 (wd ab 1 : Nat), .int .u64 (wd ab 2 : Nat), .int .u64 (wd ab 3 : Nat)] 24)) gb 24 #[.int .u64 (wd b 0 : Nat), .int .u64 (wd b 1 : Nat), .int .u64 (wd b 2 : Nat), .int .u64 (wd b 3 : Nat)] := Fb.out.alloc _
  have Nx : At (v12.alloc (.cells #[.int .u64 (wd ab 0 : Nat), .int .u64 (wd ab 1 : Nat), .int .u64 (wd ab 2 : Nat), .int .u64 (wd ab 3 : Nat)] 24)) gx 24 #[.int .u64 (wd x 0 : Nat), .int .u64 (wd x 1 : Nat), .int .u64 (wd x 2 : Nat), .int .u64 (wd x 3 : Nat)] := Fx.out.alloc _
  have Ny : At (v12.alloc (.cells #[.int .u64 (wd ab 0 : Nat), .int .u64 (wd ab 1 : Nat), .int .u64 (wd ab 2 : Nat), .int .u64 (wd ab 3 : Nat)] 24)) gy 24 #[.int .u64 (wd y 0 : Nat), .int .u64 (wd y 1 : Nat), .int .u64 (wd y 2 : Nat), .int .u64 (wd y 3 : Nat)] := Fy.out.alloc _
  have NB : Below w.heap.size w (v12.alloc (.cells #[.int .u64 (wd ab 0 : Nat), .int .u64 (wd ab 1 : Nat), .int .u64 (wd ab 2 : Nat), .int .u64 (wd ab 3 : Nat)] 24)) := gr_alloc BW.out _
  clear BW Fm Fa Fb Fx Fy
  generalize (v12.alloc (.cells #[.int .u64 (wd ab 0 : Nat), .int .u64 (wd ab 1 : Nat), .int .u64 (wd ab 2 : Nat), .int .u64 (wd ab 3 : Nat)] 24)) = W13 at *
  generalize v12.heap.size = gab at *
  have Fm := Lib.hid Nm
  have Fa := Lib.hid Na
  have Fb := Lib.hid Nb
  have Fx := Lib.hid Nx
  have Fy := Lib.hid Ny
  have Fab := Lib.hid Nab
  have BW := Lib.hid NB
  clear NB Nm Na Nb Nx Ny Nab
  refine (HI3.out _).mono ?_
  rintro e v14 ⟨rfl, z14⟩
  have Nm := Lib.hid (Fm.out.on z14)
  have Na := Lib.hid (Fa.out.on z14)
  have Nb := Lib.hid (Fb.out.on z14)
  have Nx := Lib.hid (Fx.out.on z14)
  have Ny := Lib.hid (Fy.out.on z14)
  have Nab := Lib.hid (Fab.out.on z14)
  have NB := Lib.hid (bel_tr BW.out z14)
  clear BW z14 Fm Fa Fb Fx Fy Fab
  have Fm := Nm
  have Fa := Na
  have Fb := Nb
  have Fx := Nx
  have Fy := Ny
  have Fab := Nab
  have BW := NB
  clear NB Nm Na Nb Nx Ny Nab
  have La := Fa.out.lt
  have ca0 : v14.cell? ⟨ga, 0, none⟩ = some (.int .u64 (wd a 0 : Nat)) := Fa.out.cell 0
  have ca1 : v14.cell? ⟨ga, 1, none⟩ = some (.int .u64 (wd a 1 : Nat)) := Fa.out.cell 1
  have ca2 : v14.cell? ⟨ga, 2, none⟩ = some (.int .u64 (wd a 2 : Nat)) := Fa.out.cell 2
  have ca3 : v14.cell? ⟨ga, 3, none⟩ = some (.int .u64 (wd a 3 : Nat)) := Fa.out.cell 3
  have Lx := Fx.out.lt
  have cx0 : v14.cell? ⟨gx, 0, none⟩ = some (.int .u64 (wd x 0 : Nat)) := Fx.out.cell 0
  have cx1 : v14.cell? ⟨gx, 1, none⟩ = some (.int .u64 (wd x 1 : Nat)) := Fx.out.cell 1
  have cx2 : v14.cell? ⟨gx, 2, none⟩ = some (.int .u64 (wd x 2 : Nat)) := Fx.out.cell 2
  have cx3 : v14.cell? ⟨gx, 3, none⟩ = some (.int .u64 (wd x 3 : Nat)) := Fx.out.cell 3
  have Lm := Fm.out.lt
  have cm0 : v14.cell? ⟨gm, 0, none⟩ = some (.int .u64 (wd M 0 : Nat)) := Fm.out.cell 0
  have cm1 : v14.cell? ⟨gm, 1, none⟩ = some (.int .u64 (wd M 1 : Nat)) := Fm.out.cell 1
  have cm2 : v14.cell? ⟨gm, 2, none⟩ = some (.int .u64 (wd M 2 : Nat)) := Fm.out.cell 2
  have cm3 : v14.cell? ⟨gm, 3, none⟩ = some (.int .u64 (wd M 3 : Nat)) := Fm.out.cell 3
  go_wp2_with fail
  clear La ca0 ca1 ca2 ca3 Lx cx0 cx1 cx2 cx3 Lm cm0 cm1 cm2 cm3
  have Nz : At (v14.alloc (.cells #[.int .u64 (wd N0 0 : Nat), .int .u64 (wd N0 1 : Nat), .int .u64 (wd N0 2 : Nat), .int .u64 (wd N0 3 : Nat)] 24)) (v14.heap.size) 24 #[.int .u64 (wd N0 0 : Nat), .int .u64 (wd N0 1 : Nat), .int .u64 (wd N0 2 : Nat), .int .u64 (wd N0 3 : Nat)] := At.at_ _ _ _ _ (by simp)
  have Nm : At (v14.alloc (.cells #[.int .u64 (wd N0 0 : Nat), .int .u64 (wd N0 1 : Nat), .int .u64 (wd N0 2 : Nat), .int .u64 (wd N0 3 : Nat)] 24)) gm 24 #[.int .u64 (wd M 0 : Nat), .int .u64 (wd M 1 : Nat), .int .u64 (wd M 2 : Nat), .int .u64 (wd M 3 : Nat)] := Fm.out.alloc _
  have Na : At (v14.alloc (.cells #[.int .u64 (wd N0 0 : Nat), .int .u64 (wd N0 1 : Nat), .int .u64 (wd N0 2 : Nat), .int .u64 (wd N0 3 : Nat)] 24)) ga 24 #[.int .u64 (wd a 0 : Nat), .int .u64 (wd a 1 : Nat), .int .u64 (wd a 2 : Nat), .int .u64 (wd a 3 : Nat)] := Fa.out.alloc _
  have Nb : At (v14.alloc (.cells #[.int .u64 (wd N0 0 : Nat), .int .u64 (wd N0 1 : Nat), .int .u64 (wd N0 2 : Nat), .int .u64 (wd N0 3 : Nat)] 24)) gb 24 #[.int .u64 (wd b 0 : Nat), .int .u64 (wd b 1 : Nat), .int .u64 (wd b 2 : Nat), .int .u64 (wd b 3 : Nat)] := Fb.out.alloc _
  have Nx : At (v14.alloc (.cells #[.int .u64 (wd N0 0 : Nat), .int .u64 (wd N0 1 : Nat), .int .u64 (wd N0 2 : Nat), .int .u64 (wd N0 3 : Nat)] 24)) gx 24 #[.int .u64 (wd x 0 : Nat), .int .u64 (wd x 1 : Nat), .int .u64 (wd x 2 : Nat), .int .u64 (wd x 3 : Nat)] := Fx.out.alloc _
  have Ny : At (v14.alloc (.cells #[.int .u64 (wd N0 0 : Nat), .int .u64 (wd N0 1 : Nat), .int .u64 (wd N0 2 : Nat), .int .u64 (wd N0 3 : Nat)] 24)) gy 24 #[.int .u64 (wd y 0 : Nat), .int .u64 (wd y 1 : Nat), .int .u64 (wd y 2 : Nat), .int .u64 (wd y 3 : Nat)] := Fy.out.alloc _
  have Nab : At (v14.alloc (.cells #[.int .u64 (wd N0 0 : Nat), .int .u64 (wd N0 1 : Nat), .int .u64 (wd N0 2 : Nat), .int .u64 (wd N0 3 : Nat)] 24)) gab 24 #[.int .u64 (wd ab 0 : Nat), .int .u64 (wd ab 1 : Nat), .int .u64 (wd ab 2 : Nat), .int .u64 (wd ab 3 : Nat)] := Fab.out.alloc _
  have NB : Below w.heap.size w (v14.alloc (.cells #[.int .u64 (wd N0 0 : Nat), .int .u64 (wd N0 1 : Nat), .int .u64 (wd N0 2 : Nat), .int .u64 (wd N0 3 : Nat)] 24)) := gr_alloc BW.out _
  clear BW Fm Fa Fb Fx Fy Fab
  generalize (v14.alloc (.cells #[.int .u64 (wd N0 0 : Nat), .int .u64 (wd N0 1 : Nat), .int .u64 (wd N0 2 : Nat), .int .u64 (wd N0 3 : Nat)] 24)) = W15 at *
  generalize v14.heap.size = gz at *
  have Fm := Lib.hid Nm
  have Fa := Lib.hid Na
  have Fb := Lib.hid Nb
  have Fx := Lib.hid Nx
  have Fy := Lib.hid Ny
  have Fab := Lib.hid Nab
  have Fz := Lib.hid Nz
  have BW := Lib.hid NB
  clear NB Nm Na Nb Nx Ny Nab Nz
  clear Fab
  clear Fb
  refine (HM2.out _).mono ?_
  rintro e v16 ⟨rfl, z16⟩
  have Nm := Lib.hid (Fm.out.on z16)
  have Na := Lib.hid (Fa.out.on z16)
  have Nx := Lib.hid (Fx.out.on z16)
  have Ny := Lib.hid (Fy.out.on z16)
  have Nz := Lib.hid (Fz.out.on z16)
  have NB := Lib.hid (bel_tr BW.out z16)
  clear BW z16 Fm Fa Fx Fy Fz
  have Fm := Nm
  have Fa := Na
  have Fx := Nx
  have Fy := Ny
  have Fz := Nz
  have BW := NB
  clear NB Nm Na Nx Ny Nz
  have Lx := Fx.out.lt
  have cx0 : v16.cell? ⟨gx, 0, none⟩ = some (.int .u64 (wd x 0 : Nat)) := Fx.out.cell 0
  have cx1 : v16.cell? ⟨gx, 1, none⟩ = some (.int .u64 (wd x 1 : Nat)) := Fx.out.cell 1
  have cx2 : v16.cell? ⟨gx, 2, none⟩ = some (.int .u64 (wd x 2 : Nat)) := Fx.out.cell 2
  have cx3 : v16.cell? ⟨gx, 3, none⟩ = some (.int .u64 (wd x 3 : Nat)) := Fx.out.cell 3
  have Lm := Fm.out.lt
  have cm0 : v16.cell? ⟨gm, 0, none⟩ = some (.int .u64 (wd M 0 : Nat)) := Fm.out.cell 0
  have cm1 : v16.cell? ⟨gm, 1, none⟩ = some (.int .u64 (wd M 1 : Nat)) := Fm.out.cell 1
  have cm2 : v16.cell? ⟨gm, 2, none⟩ = some (.int .u64 (wd M 2 : Nat)) := Fm.out.cell 2
  have cm3 : v16.cell? ⟨gm, 3, none⟩ = some (.int .u64 (wd M 3 : Nat)) := Fm.out.cell 3
  go_wp2_with fail
  clear Lx cx0 cx1 cx2 cx3 Lm cm0 cm1 cm2 cm3
  have Non : At (v16.alloc (.cells #[.int .u64 (wd Z 0 : Nat), .int .u64 (wd Z 1 : Nat), .int .u64 (wd Z 2 : Nat), .int .u64 (wd Z 3 : Nat)] 24)) (v16.heap.size) 24 #[.int .u64 (wd Z 0 : Nat), .int .u64 (wd Z 1 : Nat), .int .u64 (wd Z 2 : Nat), .int .u64 (wd Z 3 : Nat)] := At.at_ _ _ _ _ (by simp)
  have Nm : At (v16.alloc (.cells #[.int .u64 (wd Z 0 : Nat), .int .u64 (wd Z 1 : Nat), .int .u64 (wd Z 2 : Nat), .int .u64 (wd Z 3 : Nat)] 24)) gm 24 #[.int .u64 (wd M 0 : Nat), .int .u64 (wd M 1 : Nat), .int .u64 (wd M 2 : Nat), .int .u64 (wd M 3 : Nat)] := Fm.out.alloc _
  have Na : At (v16.alloc (.cells #[.int .u64 (wd Z 0 : Nat), .int .u64 (wd Z 1 : Nat), .int .u64 (wd Z 2 : Nat), .int .u64 (wd Z 3 : Nat)] 24)) ga 24 #[.int .u64 (wd a 0 : Nat), .int .u64 (wd a 1 : Nat), .int .u64 (wd a 2 : Nat), .int .u64 (wd a 3 : Nat)] := Fa.out.alloc _
  have Nx : At (v16.alloc (.cells #[.int .u64 (wd Z 0 : Nat), .int .u64 (wd Z 1 : Nat), .int .u64 (wd Z 2 : Nat), .int .u64 (wd Z 3 : Nat)] 24)) gx 24 #[.int .u64 (wd x 0 : Nat), .int .u64 (wd x 1 : Nat), .int .u64 (wd x 2 : Nat), .int .u64 (wd x 3 : Nat)] := Fx.out.alloc _
  have Ny : At (v16.alloc (.cells #[.int .u64 (wd Z 0 : Nat), .int .u64 (wd Z 1 : Nat), .int .u64 (wd Z 2 : Nat), .int .u64 (wd Z 3 : Nat)] 24)) gy 24 #[.int .u64 (wd y 0 : Nat), .int .u64 (wd y 1 : Nat), .int .u64 (wd y 2 : Nat), .int .u64 (wd y 3 : Nat)] := Fy.out.alloc _
  have Nz : At (v16.alloc (.cells #[.int .u64 (wd Z 0 : Nat), .int .u64 (wd Z 1 : Nat), .int .u64 (wd Z 2 : Nat), .int .u64 (wd Z 3 : Nat)] 24)) gz 24 #[.int .u64 (wd N0 0 : Nat), .int .u64 (wd N0 1 : Nat), .int .u64 (wd N0 2 : Nat), .int .u64 (wd N0 3 : Nat)] := Fz.out.alloc _
  have NB : Below w.heap.size w (v16.alloc (.cells #[.int .u64 (wd Z 0 : Nat), .int .u64 (wd Z 1 : Nat), .int .u64 (wd Z 2 : Nat), .int .u64 (wd Z 3 : Nat)] 24)) := gr_alloc BW.out _
  clear BW Fm Fa Fx Fy Fz
  generalize (v16.alloc (.cells #[.int .u64 (wd Z 0 : Nat), .int .u64 (wd Z 1 : Nat), .int .u64 (wd Z 2 : Nat), .int .u64 (wd Z 3 : Nat)] 24)) = W17 at *
  generalize v16.heap.size = gon at *
  have Fm := Lib.hid Nm
  have Fa := Lib.hid Na
  have Fx := Lib.hid Nx
  have Fy := Lib.hid Ny
  have Fz := Lib.hid Nz
  have Fon := Lib.hid Non
  have BW := Lib.hid NB
  clear NB Nm Na Nx Ny Nz Non
  refine (HI4.out _).mono ?_
  rintro e v18 ⟨rfl, z18⟩
  have Nm := Lib.hid (Fm.out.on z18)
  have Na := Lib.hid (Fa.out.on z18)
  have Nx := Lib.hid (Fx.out.on z18)
  have Ny := Lib.hid (Fy.out.on z18)
  have Nz := Lib.hid (Fz.out.on z18)
  have Non := Lib.hid (Fon.out.on z18)
  have NB := Lib.hid (bel_tr BW.out z18)
  clear BW z18 Fm Fa Fx Fy Fz Fon
  have Fm := Nm
  have Fa := Na
  have Fx := Nx
  have Fy := Ny
  have Fz := Nz
  have Fon := Non
  have BW := NB
  clear NB Nm Na Nx Ny Nz Non
  go_wp2_with fail
  have Nbk : At (v18.alloc (.cells #[.int .u64 (wd a 0 : Nat), .int .u64 (wd a 1 : Nat), .int .u64 (wd a 2 : Nat), .int .u64 (wd a 3 : Nat)] 24)) (v18.heap.size) 24 #[.int .u64 (wd a 0 : Nat), .int .u64 (wd a 1 : Nat), .int .u64 (wd a 2 : Nat), .int .u64 (wd a 3 : Nat)] := At.at_ _ _ _ _ (by simp)
  have Nm : At (v18.alloc (.cells #[.int .u64 (wd a 0 : Nat), .int .u64 (wd a 1 : Nat), .int .u64 (wd a 2 : Nat), .int .u64 (wd a 3 : Nat)] 24)) gm 24 #[.int .u64 (wd M 0 : Nat), .int .u64 (wd M 1 : Nat), .int .u64 (wd M 2 : Nat), .int .u64 (wd M 3 : Nat)] := Fm.out.alloc _
  have Na : At (v18.alloc (.cells #[.int .u64 (wd a 0 : Nat), .int .u64 (wd a 1 : Nat), .int .u64 (wd a 2 : Nat), .int .u64 (wd a 3 : Nat)] 24)) ga 24 #[.int .u64 (wd a 0 : Nat), .int .u64 (wd a 1 : Nat), .int .u64 (wd a 2 : Nat), .int .u64 (wd a 3 : Nat)] := Fa.out.alloc _
  have Nx : At (v18.alloc (.cells #[.int .u64 (wd a 0 : Nat), .int .u64 (wd a 1 : Nat), .int .u64 (wd a 2 : Nat), .int .u64 (wd a 3 : Nat)] 24)) gx 24 #[.int .u64 (wd x 0 : Nat), .int .u64 (wd x 1 : Nat), .int .u64 (wd x 2 : Nat), .int .u64 (wd x 3 : Nat)] := Fx.out.alloc _
  have Ny : At (v18.alloc (.cells #[.int .u64 (wd a 0 : Nat), .int .u64 (wd a 1 : Nat), .int .u64 (wd a 2 : Nat), .int .u64 (wd a 3 : Nat)] 24)) gy 24 #[.int .u64 (wd y 0 : Nat), .int .u64 (wd y 1 : Nat), .int .u64 (wd y 2 : Nat), .int .u64 (wd y 3 : Nat)] := Fy.out.alloc _
  have Nz : At (v18.alloc (.cells #[.int .u64 (wd a 0 : Nat), .int .u64 (wd a 1 : Nat), .int .u64 (wd a 2 : Nat), .int .u64 (wd a 3 : Nat)] 24)) gz 24 #[.int .u64 (wd N0 0 : Nat), .int .u64 (wd N0 1 : Nat), .int .u64 (wd N0 2 : Nat), .int .u64 (wd N0 3 : Nat)] := Fz.out.alloc _
  have Non : At (v18.alloc (.cells #[.int .u64 (wd a 0 : Nat), .int .u64 (wd a 1 : Nat), .int .u64 (wd a 2 : Nat), .int .u64 (wd a 3 : Nat)] 24)) gon 24 #[.int .u64 (wd Z 0 : Nat), .int .u64 (wd Z 1 : Nat), .int .u64 (wd Z 2 : Nat), .int .u64 (wd Z 3 : Nat)] := Fon.out.alloc _
  have NB : Below w.heap.size w (v18.alloc (.cells #[.int .u64 (wd a 0 : Nat), .int .u64 (wd a 1 : Nat), .int .u64 (wd a 2 : Nat), .int .u64 (wd a 3 : Nat)] 24)) := gr_alloc BW.out _
  clear BW Fm Fa Fx Fy Fz Fon
  generalize (v18.alloc (.cells #[.int .u64 (wd a 0 : Nat), .int .u64 (wd a 1 : Nat), .int .u64 (wd a 2 : Nat), .int .u64 (wd a 3 : Nat)] 24)) = W19 at *
  generalize v18.heap.size = gbk at *
  have Fm := Lib.hid Nm
  have Fa := Lib.hid Na
  have Fx := Lib.hid Nx
  have Fy := Lib.hid Ny
  have Fz := Lib.hid Nz
  have Fon := Lib.hid Non
  have Fbk := Lib.hid Nbk
  have BW := Lib.hid NB
  clear NB Nm Na Nx Ny Nz Non Nbk
  try simp only [List.append_eq, List.cons_append, List.nil_append]
  refine wp_region_noPanic ?_
  refine wp_region_held_drew (S := fun w' => At w' gon 24 #[.int .u64 (wd Z 0 : Nat), .int .u64 (wd Z 1 : Nat), .int .u64 (wd Z 2 : Nat), .int .u64 (wd Z 3 : Nat)] ∧ At w' gbk 24 #[.int .u64 (wd a 0 : Nat), .int .u64 (wd a 1 : Nat), .int .u64 (wd a 2 : Nat), .int .u64 (wd a 3 : Nat)] ∧ At w' ga 24 #[.int .u64 (wd a 0 : Nat), .int .u64 (wd a 1 : Nat), .int .u64 (wd a 2 : Nat), .int .u64 (wd a 3 : Nat)]) (by kernel_rfl) (⟨Fon.out.drew, Fbk.out.drew, Fa.out.drew⟩) (fun _ => ?_)
  refine wpAnyH_cores (fuel := 0) (⟨0, 109, [], Kind.val (.int .i64 0), true⟩ :: ⟨1, 110, [0], Kind.val (.bool false), true⟩ :: ⟨2, 111, [1], Kind.val (.bool false), true⟩ :: ⟨3, 112, [2], Kind.val (.int .i64 0), true⟩ :: ⟨4, 113, [2, 3], Kind.val (.bool false), true⟩ :: ⟨5, 114, [2, 4], Kind.val (.bool false), true⟩ :: ⟨6, 115, [5], Kind.val (.bool false), true⟩ :: ⟨7, 116, [6], Kind.val (.agg #[.int .u64 (wd Z 0 : Nat), .int .u64 (wd Z 1 : Nat), .int .u64 (wd Z 2 : Nat), .int .u64 (wd Z 3 : Nat)]), true⟩ :: ⟨8, 117, [6, 7], Kind.val (.agg #[.int .u64 (wd Z 0 : Nat), .int .u64 (wd Z 1 : Nat), .int .u64 (wd Z 2 : Nat), .int .u64 (wd Z 3 : Nat)]), false⟩ :: ⟨9, 118, [6, 7, 8], Kind.val (.bool false), true⟩ :: ⟨10, 119, [6, 9], Kind.val (.bool false), true⟩ :: ⟨11, 120, [10], Kind.val (.bool false), true⟩ :: ⟨12, 121, [11], Kind.val (.agg #[.int .u64 (wd a 0 : Nat), .int .u64 (wd a 1 : Nat), .int .u64 (wd a 2 : Nat), .int .u64 (wd a 3 : Nat)]), true⟩ :: ⟨13, 122, [11, 12], Kind.val (.agg #[.int .u64 (wd a 0 : Nat), .int .u64 (wd a 1 : Nat), .int .u64 (wd a 2 : Nat), .int .u64 (wd a 3 : Nat)]), true⟩ :: ⟨14, 123, [11, 12, 13], Kind.val (.bool false), true⟩ :: ⟨15, 124, [11, 14], Kind.val (.bool false), true⟩ :: []) _ _ W19 _ ?_ ?_ ?_ ?_ ?_ ?_ ?_ ?_ ?_ ?_ ?_
  · rfl
  · kernel_rfl
  · exact of_decide_eq_true (by kernel_rfl)
  · exact all_cons ⟨_, by rfl, by rfl⟩ (all_cons ⟨_, by rfl, by rfl⟩ (all_cons ⟨_, by rfl, by rfl⟩ (all_cons ⟨_, by rfl, by rfl⟩ (all_cons ⟨_, by rfl, by rfl⟩ (all_cons ⟨_, by rfl, by rfl⟩ (all_cons ⟨_, by rfl, by rfl⟩ (all_cons ⟨_, by rfl, by rfl⟩ (all_cons ⟨_, by rfl, by rfl⟩ (all_cons ⟨_, by rfl, by rfl⟩ (all_cons ⟨_, by rfl, by rfl⟩ (all_cons ⟨_, by rfl, by rfl⟩ (all_cons ⟨_, by rfl, by rfl⟩ (all_cons ⟨_, by rfl, by rfl⟩ (all_cons ⟨_, by rfl, by rfl⟩ (all_cons ⟨_, by rfl, by rfl⟩ (all_nil))))))))))))))))
  · exact fun _ hb => ⟨Fon.out.on hb, Fbk.out.on hb, Fa.out.on hb⟩
  · exact (Below.refl _ _).drew
  · kernel_rfl
  · exact fun _ _ _ _ _ h => h
  · refine all_cons ?_ (all_cons ?_ (all_cons ?_ (all_cons ?_ (all_cons ?_ (all_cons ?_ (all_cons ?_ (all_cons ?_ (all_cons ?_ (all_cons ?_ (all_cons ?_ (all_cons ?_ (all_cons ?_ (all_cons ?_ (all_cons ?_ (all_cons ?_ (all_nil))))))))))))))))
    · exact coreG_move _ _ _ _ _ _ _ (by rfl) (by rfl) (wants_none) (known_old 16 _ (of_decide_eq_true (by rfl)) (by rfl))
    · exact coreG_bin _ _ _ _ _ _ _ _ _ _ _ _ _ (by rfl) (by rfl) (wants_none) (known_core 0 109 _ _ (of_decide_eq_true (by rfl)) (by rfl) (by rfl) (by rfl)) (known_const _) ((fun ρ w hx hy => by simp only [execOp, hx, hy]; simp [go_sem]))
    · exact coreG_move _ _ _ _ _ _ _ (by rfl) (by rfl) (wants_none) (known_core 1 110 _ _ (of_decide_eq_true (by rfl)) (by rfl) (by rfl) (by rfl))
    · exact coreG_move _ _ _ _ _ _ _ (by rfl) (by rfl) (wants_core 2 111 2 _ _ _ (by rfl) (by rfl) (by rfl) (known_core 2 111 _ _ (of_decide_eq_true (by rfl)) (by rfl) (by rfl) (by rfl)) _ (by rfl)) (known_old 18 _ (of_decide_eq_true (by rfl)) (by rfl))
    · exact coreG_bin _ _ _ _ _ _ _ _ _ _ _ _ _ (by rfl) (by rfl) (wants_core 2 111 2 _ _ _ (by rfl) (by rfl) (by rfl) (known_core 2 111 _ _ (of_decide_eq_true (by rfl)) (by rfl) (by rfl) (by rfl)) _ (by rfl)) (known_core 3 112 _ _ (of_decide_eq_true (by rfl)) (by rfl) (by rfl) (by rfl)) (known_const _) ((fun ρ w hx hy => by simp only [execOp, hx, hy]; simp [go_sem]))
    · exact coreG_pick _ _ _ _ _ _ _ _ _ _ _ _ (by rfl) (by rfl) (wants_none) (known_core 2 111 _ _ (of_decide_eq_true (by rfl)) (by rfl) (by rfl) (by rfl)) (known_const _) (known_core 4 113 _ _ (of_decide_eq_true (by rfl)) (by rfl) (by rfl) (by rfl)) (by rfl)
    · exact coreG_move _ _ _ _ _ _ _ (by rfl) (by rfl) (wants_none) (known_core 5 114 _ _ (of_decide_eq_true (by rfl)) (by rfl) (by rfl) (by rfl))
    · exact coreG_loadP _ _ _ _ _ _ gon _ _ _ _ (by rfl) (by rfl) (wants_core 6 115 6 _ _ _ (by rfl) (by rfl) (by rfl) (known_core 6 115 _ _ (of_decide_eq_true (by rfl)) (by rfl) (by rfl) (by rfl)) _ (by rfl)) (known_old 15 _ (of_decide_eq_true (by rfl)) (by rfl)) (fun _ hs => hs.1)
    · exact core_pureAs _ (by rfl)
    · exact coreG_bin _ _ _ _ _ _ _ _ _ _ _ _ _ (by rfl) (by rfl) (wants_core 6 115 6 _ _ _ (by rfl) (by rfl) (by rfl) (known_core 6 115 _ _ (of_decide_eq_true (by rfl)) (by rfl) (by rfl) (by rfl)) _ (by rfl)) (known_core 7 116 _ _ (of_decide_eq_true (by rfl)) (by rfl) (by rfl) (by rfl)) (known_core 8 117 _ _ (of_decide_eq_true (by rfl)) (by rfl) (by rfl) (by rfl)) (neq_run true _ _ _ _ _ _ _ _ _ _ _ _ _ _ _ (eqY Z))
    · exact coreG_pick _ _ _ _ _ _ _ _ _ _ _ _ (by rfl) (by rfl) (wants_none) (known_core 6 115 _ _ (of_decide_eq_true (by rfl)) (by rfl) (by rfl) (by rfl)) (known_const _) (known_core 9 118 _ _ (of_decide_eq_true (by rfl)) (by rfl) (by rfl) (by rfl)) (by rfl)
    · exact coreG_move _ _ _ _ _ _ _ (by rfl) (by rfl) (wants_none) (known_core 10 119 _ _ (of_decide_eq_true (by rfl)) (by rfl) (by rfl) (by rfl))
    · exact coreG_loadP _ _ _ _ _ _ gbk _ _ _ _ (by rfl) (by rfl) (wants_core 11 120 11 _ _ _ (by rfl) (by rfl) (by rfl) (known_core 11 120 _ _ (of_decide_eq_true (by rfl)) (by rfl) (by rfl) (by rfl)) _ (by rfl)) (known_old 17 _ (of_decide_eq_true (by rfl)) (by rfl)) (fun _ hs => hs.2.1)
    · exact coreG_loadP _ _ _ _ _ _ ga _ _ _ _ (by rfl) (by rfl) (wants_core 11 120 11 _ _ _ (by rfl) (by rfl) (by rfl) (known_core 11 120 _ _ (of_decide_eq_true (by rfl)) (by rfl) (by rfl) (by rfl)) _ (by rfl)) (known_old 5 _ (of_decide_eq_true (by rfl)) (by rfl)) (fun _ hs => hs.2.2)
    · exact coreG_bin _ _ _ _ _ _ _ _ _ _ _ _ _ (by rfl) (by rfl) (wants_core 11 120 11 _ _ _ (by rfl) (by rfl) (by rfl) (known_core 11 120 _ _ (of_decide_eq_true (by rfl)) (by rfl) (by rfl) (by rfl)) _ (by rfl)) (known_core 12 121 _ _ (of_decide_eq_true (by rfl)) (by rfl) (by rfl) (by rfl)) (known_core 13 122 _ _ (of_decide_eq_true (by rfl)) (by rfl) (by rfl) (by rfl)) (neq_run true _ _ _ _ _ _ _ _ _ _ _ _ _ _ _ (eqY a))
    · exact coreG_pick _ _ _ _ _ _ _ _ _ _ _ _ (by rfl) (by rfl) (wants_none) (known_core 11 120 _ _ (of_decide_eq_true (by rfl)) (by rfl) (by rfl) (by rfl)) (known_const _) (known_core 14 123 _ _ (of_decide_eq_true (by rfl)) (by rfl) (by rfl) (by rfl)) (by rfl)
  · refine all_cons ?_ (all_cons ?_ (all_cons ?_ (all_cons ?_ (all_cons ?_ (all_cons ?_ (all_cons ?_ (all_cons ?_ (all_cons ?_ (all_cons ?_ (all_cons ?_ (all_cons ?_ (all_cons ?_ (all_cons ?_ (all_cons ?_ (all_cons ?_ (all_nil))))))))))))))))
    · exact core_stepAs _ (by rfl)
    · exact core_stepAs _ (by rfl)
    · exact core_stepAs _ (by rfl)
    · exact core_stepAs _ (by rfl)
    · exact core_stepAs _ (by rfl)
    · exact core_stepAs _ (by rfl)
    · exact core_stepAs _ (by rfl)
    · exact core_stepAs _ (by rfl)
    · exact fun _ => coreG_call _ 28 _ _ [.const (.int .u64 1)] _ _ _ _ _ _ _ (by rfl) Try.func28 (by kernel_rfl) (by rfl) (by rfl) (wants_core 6 115 6 _ _ _ (by rfl) (by rfl) (by rfl) (known_core 6 115 _ _ (of_decide_eq_true (by rfl)) (by rfl) (by rfl) (by rfl)) _ (by rfl)) (.cons (known_const _) .nil) (HO.out)
    · exact core_stepAs _ (by rfl)
    · exact core_stepAs _ (by rfl)
    · exact core_stepAs _ (by rfl)
    · exact core_stepAs _ (by rfl)
    · exact core_stepAs _ (by rfl)
    · exact core_stepAs _ (by rfl)
    · exact core_stepAs _ (by rfl)
  intro vs y20 hc
  obtain ⟨vv0, vv1, vv2, vv3, vv4, vv5, vv6, vv7, vv8, vv9, vv10, vv11, vv12, vv13, vv14, vv15, rfl⟩ := len16 vs hc.lv
  have qq0 : vv0 = .int .i64 0 := by obtain ⟨xx, hx, hy⟩ := hc.ok 0 _ rfl rfl; exact (Option.some.inj (show some vv0 = some xx from hx)).trans hy
  have qq1 : vv1 = .bool false := by obtain ⟨xx, hx, hy⟩ := hc.ok 1 _ rfl rfl; exact (Option.some.inj (show some vv1 = some xx from hx)).trans hy
  have qq2 : vv2 = .bool false := by obtain ⟨xx, hx, hy⟩ := hc.ok 2 _ rfl rfl; exact (Option.some.inj (show some vv2 = some xx from hx)).trans hy
  have qq3 : vv3 = .int .i64 0 := by obtain ⟨xx, hx, hy⟩ := hc.ok 3 _ rfl rfl; exact (Option.some.inj (show some vv3 = some xx from hx)).trans hy
  have qq4 : vv4 = .bool false := by obtain ⟨xx, hx, hy⟩ := hc.ok 4 _ rfl rfl; exact (Option.some.inj (show some vv4 = some xx from hx)).trans hy
  have qq5 : vv5 = .bool false := by obtain ⟨xx, hx, hy⟩ := hc.ok 5 _ rfl rfl; exact (Option.some.inj (show some vv5 = some xx from hx)).trans hy
  have qq6 : vv6 = .bool false := by obtain ⟨xx, hx, hy⟩ := hc.ok 6 _ rfl rfl; exact (Option.some.inj (show some vv6 = some xx from hx)).trans hy
  have qq7 : vv7 = .agg #[.int .u64 (wd Z 0 : Nat), .int .u64 (wd Z 1 : Nat), .int .u64 (wd Z 2 : Nat), .int .u64 (wd Z 3 : Nat)] := by obtain ⟨xx, hx, hy⟩ := hc.ok 7 _ rfl rfl; exact (Option.some.inj (show some vv7 = some xx from hx)).trans hy
  have qq8 : vv8 = .agg #[.int .u64 (wd Z 0 : Nat), .int .u64 (wd Z 1 : Nat), .int .u64 (wd Z 2 : Nat), .int .u64 (wd Z 3 : Nat)] := by obtain ⟨xx, hx, hy⟩ := hc.ok 8 _ rfl rfl; exact (Option.some.inj (show some vv8 = some xx from hx)).trans hy
  have qq9 : vv9 = .bool false := by obtain ⟨xx, hx, hy⟩ := hc.ok 9 _ rfl rfl; exact (Option.some.inj (show some vv9 = some xx from hx)).trans hy
  have qq10 : vv10 = .bool false := by obtain ⟨xx, hx, hy⟩ := hc.ok 10 _ rfl rfl; exact (Option.some.inj (show some vv10 = some xx from hx)).trans hy
  have qq11 : vv11 = .bool false := by obtain ⟨xx, hx, hy⟩ := hc.ok 11 _ rfl rfl; exact (Option.some.inj (show some vv11 = some xx from hx)).trans hy
  have qq12 : vv12 = .agg #[.int .u64 (wd a 0 : Nat), .int .u64 (wd a 1 : Nat), .int .u64 (wd a 2 : Nat), .int .u64 (wd a 3 : Nat)] := by obtain ⟨xx, hx, hy⟩ := hc.ok 12 _ rfl rfl; exact (Option.some.inj (show some vv12 = some xx from hx)).trans hy
  have qq13 : vv13 = .agg #[.int .u64 (wd a 0 : Nat), .int .u64 (wd a 1 : Nat), .int .u64 (wd a 2 : Nat), .int .u64 (wd a 3 : Nat)] := by obtain ⟨xx, hx, hy⟩ := hc.ok 13 _ rfl rfl; exact (Option.some.inj (show some vv13 = some xx from hx)).trans hy
  have qq14 : vv14 = .bool false := by obtain ⟨xx, hx, hy⟩ := hc.ok 14 _ rfl rfl; exact (Option.some.inj (show some vv14 = some xx from hx)).trans hy
  have qq15 : vv15 = .bool false := by obtain ⟨xx, hx, hy⟩ := hc.ok 15 _ rfl rfl; exact (Option.some.inj (show some vv15 = some xx from hx)).trans hy
  have BZ := hc.bel
  clear hc
  have Nm := Fm.out.on BZ
  have Na := Fa.out.on BZ
  have Nx := Fx.out.on BZ
  have Ny := Fy.out.on BZ
  have Nz := Fz.out.on BZ
  have Non := Fon.out.on BZ
  have Nbk := Fbk.out.on BZ
  have NB := bel_tr BW.out BZ
  clear BW BZ Fm Fa Fx Fy Fz Fon Fbk
  subst qq0 qq1 qq2 qq3 qq4 qq5 qq6 qq7 qq8 qq9 qq10 qq11 qq12 qq13 qq14 qq15
  simp only [List.map_cons, List.map_nil, over, Act.put, List.setIfInBounds_toArray, List.set_cons_zero, List.set_cons_succ]
  refine wpAnyH_done (by kernel_rfl) ?_ _
  refine NoPanic.normal ?_
  have Fm := Lib.hid Nm
  have Fa := Lib.hid Na
  have Fx := Lib.hid Nx
  have Fy := Lib.hid Ny
  have Fz := Lib.hid Nz
  have Fon := Lib.hid Non
  have Fbk := Lib.hid Nbk
  have BW := Lib.hid NB
  clear NB Nm Na Nx Ny Nz Non Nbk
  go_wp2_with fail
  refine (alive4_any _).mono ?_
  rintro e v21 ⟨rfl, z21⟩
  have Nm := Lib.hid (Fm.out.on z21)
  have Na := Lib.hid (Fa.out.on z21)
  have Nx := Lib.hid (Fx.out.on z21)
  have Ny := Lib.hid (Fy.out.on z21)
  have Nz := Lib.hid (Fz.out.on z21)
  have Non := Lib.hid (Fon.out.on z21)
  have Nbk := Lib.hid (Fbk.out.on z21)
  have NB := Lib.hid (bel_tr BW.out z21)
  clear BW z21 Fm Fa Fx Fy Fz Fon Fbk
  have Fm := Nm
  have Fa := Na
  have Fx := Nx
  have Fy := Ny
  have Fz := Nz
  have Fon := Non
  have Fbk := Nbk
  have BW := NB
  clear NB Nm Na Nx Ny Nz Non Nbk
  go_wp2_with fail
  go_ret
  exact ⟨rfl, BW.out⟩

set_option maxRecDepth 100000 in
set_option maxHeartbeats 8000000 in
theorem inv_both (X Y M Z N0 a b x y z g ab : Nat) (k : Int)
    (hk : 0 < k)
    (O : ∀ w, Calls Try.prog 28 #[.int .u64 1] w fun e w' => e = .returned (num Z) ∧ Below w.heap.size w w')
    (K : ∀ w, Calls Try.prog 27 #[num M, num Z] w fun e w' => e = .returned (.int .i64 k) ∧ Below w.heap.size w w')
    (B1 : ∀ w, Calls Try.prog 30 #[num X, num M] w fun e w' => e = .returned (num a) ∧ Below w.heap.size w w')
    (B2 : ∀ w, Calls Try.prog 30 #[num Y, num M] w fun e w' => e = .returned (num b) ∧ Below w.heap.size w w')
    (I1 : ∀ w, Calls Try.prog 21 #[num a, num M] w fun e w' => e = .returned (.tuple #[num x, .int .i64 0]) ∧ Below w.heap.size w w')
    (I2 : ∀ w, Calls Try.prog 21 #[num b, num M] w fun e w' => e = .returned (.tuple #[num y, .int .i64 0]) ∧ Below w.heap.size w w')
    (CM : ∀ w, Calls Try.prog 15 #[num a, num M] w fun e w' => e = .returned (num Z) ∧ Below w.heap.size w w')
    (M1 : ∀ w, Calls Try.prog 19 #[num a, num b, num M] w fun e w' => e = .returned (.tuple #[num ab, .int .i64 0]) ∧ Below w.heap.size w w')
    (I3 : ∀ w, Calls Try.prog 21 #[num ab, num M] w fun e w' => e = .returned (.tuple #[num z, .int .i64 0]) ∧ Below w.heap.size w w')
    (M2 : ∀ w, Calls Try.prog 19 #[num a, num x, num M] w fun e w' => e = .returned (.tuple #[num Z, .int .i64 0]) ∧ Below w.heap.size w w')
    (I4 : ∀ w, Calls Try.prog 21 #[num x, num M] w fun e w' => e = .returned (.tuple #[num a, .int .i64 0]) ∧ Below w.heap.size w w')
    (M3 : ∀ w, Calls Try.prog 19 #[num x, num y, num M] w fun e w' => e = .returned (.tuple #[num z, .int .i64 0]) ∧ Below w.heap.size w w')
    (w : World) : Calls Try.prog 8 #[.agg #[.int .u64 (wd X 0 : Nat), .int .u64 (wd X 1 : Nat), .int .u64 (wd X 2 : Nat), .int .u64 (wd X 3 : Nat), .int .u64 (wd Y 0 : Nat), .int .u64 (wd Y 1 : Nat), .int .u64 (wd Y 2 : Nat), .int .u64 (wd Y 3 : Nat)], num M] w fun e w' => e = .returned (.bool true) ∧ Below w.heap.size w w' := by
  have HO := Lib.hid O
  have HK := Lib.hid K
  have HB1 := Lib.hid B1
  have HB2 := Lib.hid B2
  have HI1 := Lib.hid I1
  have HI2 := Lib.hid I2
  have HCM := Lib.hid CM
  have HM1 := Lib.hid M1
  have HI3 := Lib.hid I3
  have HM2 := Lib.hid M2
  have HI4 := Lib.hid I4
  have HM3 := Lib.hid M3
  clear O K B1 B2 I1 I2 CM M1 I3 M2 I4 M3
  go_enter Try.func8, Try.ntmps8
  go_wp2_with fail
  have BW := Lib.hid (Below.refl w.heap.size w)
  have Narr : At ((w.alloc (.cells #[.int .u64 (wd X 0 : Nat), .int .u64 (wd X 1 : Nat), .int .u64 (wd X 2 : Nat), .int .u64 (wd X 3 : Nat), .int .u64 (wd Y 0 : Nat), .int .u64 (wd Y 1 : Nat), .int .u64 (wd Y 2 : Nat), .int .u64 (wd Y 3 : Nat)] 43)).alloc (.cells #[.int .u64 (wd M 0 : Nat), .int .u64 (wd M 1 : Nat), .int .u64 (wd M 2 : Nat), .int .u64 (wd M 3 : Nat)] 24)) (w.heap.size) 43 #[.int .u64 (wd X 0 : Nat), .int .u64 (wd X 1 : Nat), .int .u64 (wd X 2 : Nat), .int .u64 (wd X 3 : Nat), .int .u64 (wd Y 0 : Nat), .int .u64 (wd Y 1 : Nat), .int .u64 (wd Y 2 : Nat), .int .u64 (wd Y 3 : Nat)] := (At.at_ _ _ _ _ (by simp)).alloc _
  have Nm : At ((w.alloc (.cells #[.int .u64 (wd X 0 : Nat), .int .u64 (wd X 1 : Nat), .int .u64 (wd X 2 : Nat), .int .u64 (wd X 3 : Nat), .int .u64 (wd Y 0 : Nat), .int .u64 (wd Y 1 : Nat), .int .u64 (wd Y 2 : Nat), .int .u64 (wd Y 3 : Nat)] 43)).alloc (.cells #[.int .u64 (wd M 0 : Nat), .int .u64 (wd M 1 : Nat), .int .u64 (wd M 2 : Nat), .int .u64 (wd M 3 : Nat)] 24)) (w.heap.size + 1) 24 #[.int .u64 (wd M 0 : Nat), .int .u64 (wd M 1 : Nat), .int .u64 (wd M 2 : Nat), .int .u64 (wd M 3 : Nat)] := At.at_ _ _ _ _ (by simp)
  have NB : Below w.heap.size w ((w.alloc (.cells #[.int .u64 (wd X 0 : Nat), .int .u64 (wd X 1 : Nat), .int .u64 (wd X 2 : Nat), .int .u64 (wd X 3 : Nat), .int .u64 (wd Y 0 : Nat), .int .u64 (wd Y 1 : Nat), .int .u64 (wd Y 2 : Nat), .int .u64 (wd Y 3 : Nat)] 43)).alloc (.cells #[.int .u64 (wd M 0 : Nat), .int .u64 (wd M 1 : Nat), .int .u64 (wd M 2 : Nat), .int .u64 (wd M 3 : Nat)] 24)) := gr_alloc (gr_alloc BW.out _) _
  clear BW 
  generalize ((w.alloc (.cells #[.int .u64 (wd X 0 : Nat), .int .u64 (wd X 1 : Nat), .int .u64 (wd X 2 : Nat), .int .u64 (wd X 3 : Nat), .int .u64 (wd Y 0 : Nat), .int .u64 (wd Y 1 : Nat), .int .u64 (wd Y 2 : Nat), .int .u64 (wd Y 3 : Nat)] 43)).alloc (.cells #[.int .u64 (wd M 0 : Nat), .int .u64 (wd M 1 : Nat), .int .u64 (wd M 2 : Nat), .int .u64 (wd M 3 : Nat)] 24)) = W1 at *
  generalize w.heap.size + 1 = gm at *
  obtain ⟨garr, hg0⟩ : ∃ g, g = w.heap.size := ⟨_, rfl⟩
  rw [← hg0] at Narr ⊢
  clear hg0
  have Farr := Lib.hid Narr
  have Fm := Lib.hid Nm
  have BW := Lib.hid NB
  clear NB Narr Nm
  try simp only [List.append_eq, List.cons_append, List.nil_append]
  refine wp_region_noPanic ?_
  refine wp_region_held_drew (S := fun w' => At w' gm 24 #[.int .u64 (wd M 0 : Nat), .int .u64 (wd M 1 : Nat), .int .u64 (wd M 2 : Nat), .int .u64 (wd M 3 : Nat)]) (by kernel_rfl) (Fm.out.drew) (fun _ => ?_)
  refine wpAnyH_cores (fuel := 0) (⟨0, 21, [], Kind.val (.agg #[.int .u64 (wd M 0 : Nat), .int .u64 (wd M 1 : Nat), .int .u64 (wd M 2 : Nat), .int .u64 (wd M 3 : Nat)]), true⟩ :: ⟨1, 22, [0], Kind.val (.agg #[.int .u64 (wd Z 0 : Nat), .int .u64 (wd Z 1 : Nat), .int .u64 (wd Z 2 : Nat), .int .u64 (wd Z 3 : Nat)]), false⟩ :: ⟨2, 23, [0, 1], Kind.val (.int .i64 k), false⟩ :: ⟨3, 24, [2], Kind.val (.bool false), true⟩ :: []) _ _ W1 _ ?_ ?_ ?_ ?_ ?_ ?_ ?_ ?_ ?_ ?_ ?_
  · rfl
  · kernel_rfl
  · exact of_decide_eq_true (by kernel_rfl)
  · exact all_cons ⟨_, by rfl, by rfl⟩ (all_cons ⟨_, by rfl, by rfl⟩ (all_cons ⟨_, by rfl, by rfl⟩ (all_cons ⟨_, by rfl, by rfl⟩ (all_nil))))
  · exact fun _ hb => Fm.out.on hb
  · exact (Below.refl _ _).drew
  · kernel_rfl
  · exact fun _ _ _ _ _ h => h
  · refine all_cons ?_ (all_cons ?_ (all_cons ?_ (all_cons ?_ (all_nil))))
    · exact coreG_loadP _ _ _ _ _ _ gm _ _ _ _ (by rfl) (by rfl) (wants_none) (known_old 3 _ (of_decide_eq_true (by rfl)) (by rfl)) (fun _ hs => hs)
    · exact core_pureAs _ (by rfl)
    · exact core_pureAs _ (by rfl)
    · exact coreG_bin _ _ _ _ _ _ _ _ _ _ _ _ _ (by rfl) (by rfl) (wants_none) (known_core 2 23 _ _ (of_decide_eq_true (by rfl)) (by rfl) (by rfl) (by rfl)) (known_const _) ((fun ρ w hx hy => by simp only [execOp, hx, hy]; simp [go_sem]; exact hk))
  · refine all_cons ?_ (all_cons ?_ (all_cons ?_ (all_cons ?_ (all_nil))))
    · exact core_stepAs _ (by rfl)
    · exact fun _ => coreG_call _ 28 _ _ [.const (.int .u64 1)] _ _ _ _ _ _ _ (by rfl) Try.func28 (by kernel_rfl) (by rfl) (by rfl) (wants_none) (.cons (known_const _) .nil) (HO.out)
    · exact fun _ => coreG_call _ 27 _ _ [.tmp 21, .tmp 22] _ _ _ _ _ _ _ (by rfl) Try.func27 (by kernel_rfl) (by rfl) (by rfl) (wants_none) (.cons (known_core 0 21 _ _ (of_decide_eq_true (by rfl)) (by rfl) (by rfl) (by rfl)) (.cons (known_core 1 22 _ _ (of_decide_eq_true (by rfl)) (by rfl) (by rfl) (by rfl)) .nil)) (HK.out)
    · exact core_stepAs _ (by rfl)
  intro vs y2 hc
  obtain ⟨vv0, vv1, vv2, vv3, rfl⟩ := len4 vs hc.lv
  have qq0 : vv0 = .agg #[.int .u64 (wd M 0 : Nat), .int .u64 (wd M 1 : Nat), .int .u64 (wd M 2 : Nat), .int .u64 (wd M 3 : Nat)] := by obtain ⟨xx, hx, hy⟩ := hc.ok 0 _ rfl rfl; exact (Option.some.inj (show some vv0 = some xx from hx)).trans hy
  have qq1 : vv1 = .agg #[.int .u64 (wd Z 0 : Nat), .int .u64 (wd Z 1 : Nat), .int .u64 (wd Z 2 : Nat), .int .u64 (wd Z 3 : Nat)] := by obtain ⟨xx, hx, hy⟩ := hc.ok 1 _ rfl rfl; exact (Option.some.inj (show some vv1 = some xx from hx)).trans hy
  have qq2 : vv2 = .int .i64 k := by obtain ⟨xx, hx, hy⟩ := hc.ok 2 _ rfl rfl; exact (Option.some.inj (show some vv2 = some xx from hx)).trans hy
  have qq3 : vv3 = .bool false := by obtain ⟨xx, hx, hy⟩ := hc.ok 3 _ rfl rfl; exact (Option.some.inj (show some vv3 = some xx from hx)).trans hy
  have BZ := hc.bel
  clear hc
  have Narr := Farr.out.on BZ
  have Nm := Fm.out.on BZ
  have NB := bel_tr BW.out BZ
  clear BW BZ Farr Fm
  subst qq0 qq1 qq2 qq3
  simp only [List.map_cons, List.map_nil, over, Act.put, List.setIfInBounds_toArray, List.set_cons_zero, List.set_cons_succ]
  refine wpAnyH_done (by kernel_rfl) ?_ _
  refine NoPanic.normal ?_
  have Farr := Lib.hid Narr
  have Fm := Lib.hid Nm
  have BW := Lib.hid NB
  clear NB Narr Nm
  have Larr := Farr.out.lt
  have carr0 : y2.cell? ⟨garr, 0, none⟩ = some (.int .u64 (wd X 0 : Nat)) := Farr.out.cell 0
  have carr1 : y2.cell? ⟨garr, 1, none⟩ = some (.int .u64 (wd X 1 : Nat)) := Farr.out.cell 1
  have carr2 : y2.cell? ⟨garr, 2, none⟩ = some (.int .u64 (wd X 2 : Nat)) := Farr.out.cell 2
  have carr3 : y2.cell? ⟨garr, 3, none⟩ = some (.int .u64 (wd X 3 : Nat)) := Farr.out.cell 3
  have carr4 : y2.cell? ⟨garr, 4, none⟩ = some (.int .u64 (wd Y 0 : Nat)) := Farr.out.cell 4
  have carr5 : y2.cell? ⟨garr, 5, none⟩ = some (.int .u64 (wd Y 1 : Nat)) := Farr.out.cell 5
  have carr6 : y2.cell? ⟨garr, 6, none⟩ = some (.int .u64 (wd Y 2 : Nat)) := Farr.out.cell 6
  have carr7 : y2.cell? ⟨garr, 7, none⟩ = some (.int .u64 (wd Y 3 : Nat)) := Farr.out.cell 7
  have Lm := Fm.out.lt
  have cm0 : y2.cell? ⟨gm, 0, none⟩ = some (.int .u64 (wd M 0 : Nat)) := Fm.out.cell 0
  have cm1 : y2.cell? ⟨gm, 1, none⟩ = some (.int .u64 (wd M 1 : Nat)) := Fm.out.cell 1
  have cm2 : y2.cell? ⟨gm, 2, none⟩ = some (.int .u64 (wd M 2 : Nat)) := Fm.out.cell 2
  have cm3 : y2.cell? ⟨gm, 3, none⟩ = some (.int .u64 (wd M 3 : Nat)) := Fm.out.cell 3
  go_wp2_with fail
  clear Larr carr0 carr1 carr2 carr3 carr4 carr5 carr6 carr7 Lm cm0 cm1 cm2 cm3
  refine (HB1.out _).mono ?_
  rintro e v3 ⟨rfl, z3⟩
  have Narr := Lib.hid (Farr.out.on z3)
  have Nm := Lib.hid (Fm.out.on z3)
  have NB := Lib.hid (bel_tr BW.out z3)
  clear BW z3 Farr Fm
  have Farr := Narr
  have Fm := Nm
  have BW := NB
  clear NB Narr Nm
  have Larr := Farr.out.lt
  have carr0 : v3.cell? ⟨garr, 0, none⟩ = some (.int .u64 (wd X 0 : Nat)) := Farr.out.cell 0
  have carr1 : v3.cell? ⟨garr, 1, none⟩ = some (.int .u64 (wd X 1 : Nat)) := Farr.out.cell 1
  have carr2 : v3.cell? ⟨garr, 2, none⟩ = some (.int .u64 (wd X 2 : Nat)) := Farr.out.cell 2
  have carr3 : v3.cell? ⟨garr, 3, none⟩ = some (.int .u64 (wd X 3 : Nat)) := Farr.out.cell 3
  have carr4 : v3.cell? ⟨garr, 4, none⟩ = some (.int .u64 (wd Y 0 : Nat)) := Farr.out.cell 4
  have carr5 : v3.cell? ⟨garr, 5, none⟩ = some (.int .u64 (wd Y 1 : Nat)) := Farr.out.cell 5
  have carr6 : v3.cell? ⟨garr, 6, none⟩ = some (.int .u64 (wd Y 2 : Nat)) := Farr.out.cell 6
  have carr7 : v3.cell? ⟨garr, 7, none⟩ = some (.int .u64 (wd Y 3 : Nat)) := Farr.out.cell 7
  have Lm := Fm.out.lt
  have cm0 : v3.cell? ⟨gm, 0, none⟩ = some (.int .u64 (wd M 0 : Nat)) := Fm.out.cell 0
  have cm1 : v3.cell? ⟨gm, 1, none⟩ = some (.int .u64 (wd M 1 : Nat)) := Fm.out.cell 1
  have cm2 : v3.cell? ⟨gm, 2, none⟩ = some (.int .u64 (wd M 2 : Nat)) := Fm.out.cell 2
  have cm3 : v3.cell? ⟨gm, 3, none⟩ = some (.int .u64 (wd M 3 : Nat)) := Fm.out.cell 3
  go_wp2_with fail
  clear Larr carr0 carr1 carr2 carr3 carr4 carr5 carr6 carr7 Lm cm0 cm1 cm2 cm3
  have Na : At (v3.alloc (.cells #[.int .u64 (wd a 0 : Nat), .int .u64 (wd a 1 : Nat), .int .u64 (wd a 2 : Nat), .int .u64 (wd a 3 : Nat)] 24)) (v3.heap.size) 24 #[.int .u64 (wd a 0 : Nat), .int .u64 (wd a 1 : Nat), .int .u64 (wd a 2 : Nat), .int .u64 (wd a 3 : Nat)] := At.at_ _ _ _ _ (by simp)
  have Narr : At (v3.alloc (.cells #[.int .u64 (wd a 0 : Nat), .int .u64 (wd a 1 : Nat), .int .u64 (wd a 2 : Nat), .int .u64 (wd a 3 : Nat)] 24)) garr 43 #[.int .u64 (wd X 0 : Nat), .int .u64 (wd X 1 : Nat), .int .u64 (wd X 2 : Nat), .int .u64 (wd X 3 : Nat), .int .u64 (wd Y 0 : Nat), .int .u64 (wd Y 1 : Nat), .int .u64 (wd Y 2 : Nat), .int .u64 (wd Y 3 : Nat)] := Farr.out.alloc _
  have Nm : At (v3.alloc (.cells #[.int .u64 (wd a 0 : Nat), .int .u64 (wd a 1 : Nat), .int .u64 (wd a 2 : Nat), .int .u64 (wd a 3 : Nat)] 24)) gm 24 #[.int .u64 (wd M 0 : Nat), .int .u64 (wd M 1 : Nat), .int .u64 (wd M 2 : Nat), .int .u64 (wd M 3 : Nat)] := Fm.out.alloc _
  have NB : Below w.heap.size w (v3.alloc (.cells #[.int .u64 (wd a 0 : Nat), .int .u64 (wd a 1 : Nat), .int .u64 (wd a 2 : Nat), .int .u64 (wd a 3 : Nat)] 24)) := gr_alloc BW.out _
  clear BW Farr Fm
  generalize (v3.alloc (.cells #[.int .u64 (wd a 0 : Nat), .int .u64 (wd a 1 : Nat), .int .u64 (wd a 2 : Nat), .int .u64 (wd a 3 : Nat)] 24)) = W4 at *
  generalize v3.heap.size = ga at *
  have Farr := Lib.hid Narr
  have Fm := Lib.hid Nm
  have Fa := Lib.hid Na
  have BW := Lib.hid NB
  clear NB Narr Nm Na
  refine (HB2.out _).mono ?_
  rintro e v5 ⟨rfl, z5⟩
  have Narr := Lib.hid (Farr.out.on z5)
  have Nm := Lib.hid (Fm.out.on z5)
  have Na := Lib.hid (Fa.out.on z5)
  have NB := Lib.hid (bel_tr BW.out z5)
  clear BW z5 Farr Fm Fa
  have Farr := Narr
  have Fm := Nm
  have Fa := Na
  have BW := NB
  clear NB Narr Nm Na
  have La := Fa.out.lt
  have ca0 : v5.cell? ⟨ga, 0, none⟩ = some (.int .u64 (wd a 0 : Nat)) := Fa.out.cell 0
  have ca1 : v5.cell? ⟨ga, 1, none⟩ = some (.int .u64 (wd a 1 : Nat)) := Fa.out.cell 1
  have ca2 : v5.cell? ⟨ga, 2, none⟩ = some (.int .u64 (wd a 2 : Nat)) := Fa.out.cell 2
  have ca3 : v5.cell? ⟨ga, 3, none⟩ = some (.int .u64 (wd a 3 : Nat)) := Fa.out.cell 3
  have Lm := Fm.out.lt
  have cm0 : v5.cell? ⟨gm, 0, none⟩ = some (.int .u64 (wd M 0 : Nat)) := Fm.out.cell 0
  have cm1 : v5.cell? ⟨gm, 1, none⟩ = some (.int .u64 (wd M 1 : Nat)) := Fm.out.cell 1
  have cm2 : v5.cell? ⟨gm, 2, none⟩ = some (.int .u64 (wd M 2 : Nat)) := Fm.out.cell 2
  have cm3 : v5.cell? ⟨gm, 3, none⟩ = some (.int .u64 (wd M 3 : Nat)) := Fm.out.cell 3
  go_wp2_with fail
  clear La ca0 ca1 ca2 ca3 Lm cm0 cm1 cm2 cm3
  have Nb : At (v5.alloc (.cells #[.int .u64 (wd b 0 : Nat), .int .u64 (wd b 1 : Nat), .int .u64 (wd b 2 : Nat), .int .u64 (wd b 3 : Nat)] 24)) (v5.heap.size) 24 #[.int .u64 (wd b 0 : Nat), .int .u64 (wd b 1 : Nat), .int .u64 (wd b 2 : Nat), .int .u64 (wd b 3 : Nat)] := At.at_ _ _ _ _ (by simp)
  have Narr : At (v5.alloc (.cells #[.int .u64 (wd b 0 : Nat), .int .u64 (wd b 1 : Nat), .int .u64 (wd b 2 : Nat), .int .u64 (wd b 3 : Nat)] 24)) garr 43 #[.int .u64 (wd X 0 : Nat), .int .u64 (wd X 1 : Nat), .int .u64 (wd X 2 : Nat), .int .u64 (wd X 3 : Nat), .int .u64 (wd Y 0 : Nat), .int .u64 (wd Y 1 : Nat), .int .u64 (wd Y 2 : Nat), .int .u64 (wd Y 3 : Nat)] := Farr.out.alloc _
  have Nm : At (v5.alloc (.cells #[.int .u64 (wd b 0 : Nat), .int .u64 (wd b 1 : Nat), .int .u64 (wd b 2 : Nat), .int .u64 (wd b 3 : Nat)] 24)) gm 24 #[.int .u64 (wd M 0 : Nat), .int .u64 (wd M 1 : Nat), .int .u64 (wd M 2 : Nat), .int .u64 (wd M 3 : Nat)] := Fm.out.alloc _
  have Na : At (v5.alloc (.cells #[.int .u64 (wd b 0 : Nat), .int .u64 (wd b 1 : Nat), .int .u64 (wd b 2 : Nat), .int .u64 (wd b 3 : Nat)] 24)) ga 24 #[.int .u64 (wd a 0 : Nat), .int .u64 (wd a 1 : Nat), .int .u64 (wd a 2 : Nat), .int .u64 (wd a 3 : Nat)] := Fa.out.alloc _
  have NB : Below w.heap.size w (v5.alloc (.cells #[.int .u64 (wd b 0 : Nat), .int .u64 (wd b 1 : Nat), .int .u64 (wd b 2 : Nat), .int .u64 (wd b 3 : Nat)] 24)) := gr_alloc BW.out _
  clear BW Farr Fm Fa
  generalize (v5.alloc (.cells #[.int .u64 (wd b 0 : Nat), .int .u64 (wd b 1 : Nat), .int .u64 (wd b 2 : Nat), .int .u64 (wd b 3 : Nat)] 24)) = W6 at *
  generalize v5.heap.size = gb at *
  have Farr := Lib.hid Narr
  have Fm := Lib.hid Nm
  have Fa := Lib.hid Na
  have Fb := Lib.hid Nb
  have BW := Lib.hid NB
  clear NB Narr Nm Na Nb
  clear Farr
  refine (HI1.out _).mono ?_
  rintro e v7 ⟨rfl, z7⟩
  have Nm := Lib.hid (Fm.out.on z7)
  have Na := Lib.hid (Fa.out.on z7)
  have Nb := Lib.hid (Fb.out.on z7)
  have NB := Lib.hid (bel_tr BW.out z7)
  clear BW z7 Fm Fa Fb
  have Fm := Nm
  have Fa := Na
  have Fb := Nb
  have BW := NB
  clear NB Nm Na Nb
  have Lb := Fb.out.lt
  have cb0 : v7.cell? ⟨gb, 0, none⟩ = some (.int .u64 (wd b 0 : Nat)) := Fb.out.cell 0
  have cb1 : v7.cell? ⟨gb, 1, none⟩ = some (.int .u64 (wd b 1 : Nat)) := Fb.out.cell 1
  have cb2 : v7.cell? ⟨gb, 2, none⟩ = some (.int .u64 (wd b 2 : Nat)) := Fb.out.cell 2
  have cb3 : v7.cell? ⟨gb, 3, none⟩ = some (.int .u64 (wd b 3 : Nat)) := Fb.out.cell 3
  have Lm := Fm.out.lt
  have cm0 : v7.cell? ⟨gm, 0, none⟩ = some (.int .u64 (wd M 0 : Nat)) := Fm.out.cell 0
  have cm1 : v7.cell? ⟨gm, 1, none⟩ = some (.int .u64 (wd M 1 : Nat)) := Fm.out.cell 1
  have cm2 : v7.cell? ⟨gm, 2, none⟩ = some (.int .u64 (wd M 2 : Nat)) := Fm.out.cell 2
  have cm3 : v7.cell? ⟨gm, 3, none⟩ = some (.int .u64 (wd M 3 : Nat)) := Fm.out.cell 3
  go_wp2_with fail
  clear Lb cb0 cb1 cb2 cb3 Lm cm0 cm1 cm2 cm3
  have Nx : At (v7.alloc (.cells #[.int .u64 (wd x 0 : Nat), .int .u64 (wd x 1 : Nat), .int .u64 (wd x 2 : Nat), .int .u64 (wd x 3 : Nat)] 24)) (v7.heap.size) 24 #[.int .u64 (wd x 0 : Nat), .int .u64 (wd x 1 : Nat), .int .u64 (wd x 2 : Nat), .int .u64 (wd x 3 : Nat)] := At.at_ _ _ _ _ (by simp)
  have Nm : At (v7.alloc (.cells #[.int .u64 (wd x 0 : Nat), .int .u64 (wd x 1 : Nat), .int .u64 (wd x 2 : Nat), .int .u64 (wd x 3 : Nat)] 24)) gm 24 #[.int .u64 (wd M 0 : Nat), .int .u64 (wd M 1 : Nat), .int .u64 (wd M 2 : Nat), .int .u64 (wd M 3 : Nat)] := Fm.out.alloc _
  have Na : At (v7.alloc (.cells #[.int .u64 (wd x 0 : Nat), .int .u64 (wd x 1 : Nat), .int .u64 (wd x 2 : Nat), .int .u64 (wd x 3 : Nat)] 24)) ga 24 #[.int .u64 (wd a 0 : Nat), .int .u64 (wd a 1 : Nat), .int .u64 (wd a 2 : Nat), .int .u64 (wd a 3 : Nat)] := Fa.out.alloc _
  have Nb : At (v7.alloc (.cells #[.int .u64 (wd x 0 : Nat), .int .u64 (wd x 1 : Nat), .int .u64 (wd x 2 : Nat), .int .u64 (wd x 3 : Nat)] 24)) gb 24 #[.int .u64 (wd b 0 : Nat), .int .u64 (wd b 1 : Nat), .int .u64 (wd b 2 : Nat), .int .u64 (wd b 3 : Nat)] := Fb.out.alloc _
  have NB : Below w.heap.size w (v7.alloc (.cells #[.int .u64 (wd x 0 : Nat), .int .u64 (wd x 1 : Nat), .int .u64 (wd x 2 : Nat), .int .u64 (wd x 3 : Nat)] 24)) := gr_alloc BW.out _
  clear BW Fm Fa Fb
  generalize (v7.alloc (.cells #[.int .u64 (wd x 0 : Nat), .int .u64 (wd x 1 : Nat), .int .u64 (wd x 2 : Nat), .int .u64 (wd x 3 : Nat)] 24)) = W8 at *
  generalize v7.heap.size = gx at *
  have Fm := Lib.hid Nm
  have Fa := Lib.hid Na
  have Fb := Lib.hid Nb
  have Fx := Lib.hid Nx
  have BW := Lib.hid NB
  clear NB Nm Na Nb Nx
  refine (HI2.out _).mono ?_
  rintro e v9 ⟨rfl, z9⟩
  have Nm := Lib.hid (Fm.out.on z9)
  have Na := Lib.hid (Fa.out.on z9)
  have Nb := Lib.hid (Fb.out.on z9)
  have Nx := Lib.hid (Fx.out.on z9)
  have NB := Lib.hid (bel_tr BW.out z9)
  clear BW z9 Fm Fa Fb Fx
  have Fm := Nm
  have Fa := Na
  have Fb := Nb
  have Fx := Nx
  have BW := NB
  clear NB Nm Na Nb Nx
  go_wp2_with fail
  have Ny : At (v9.alloc (.cells #[.int .u64 (wd y 0 : Nat), .int .u64 (wd y 1 : Nat), .int .u64 (wd y 2 : Nat), .int .u64 (wd y 3 : Nat)] 24)) (v9.heap.size) 24 #[.int .u64 (wd y 0 : Nat), .int .u64 (wd y 1 : Nat), .int .u64 (wd y 2 : Nat), .int .u64 (wd y 3 : Nat)] := At.at_ _ _ _ _ (by simp)
  have Nm : At (v9.alloc (.cells #[.int .u64 (wd y 0 : Nat), .int .u64 (wd y 1 : Nat), .int .u64 (wd y 2 : Nat), .int .u64 (wd y 3 : Nat)] 24)) gm 24 #[.int .u64 (wd M 0 : Nat), .int .u64 (wd M 1 : Nat), .int .u64 (wd M 2 : Nat), .int .u64 (wd M 3 : Nat)] := Fm.out.alloc _
  have Na : At (v9.alloc (.cells #[.int .u64 (wd y 0 : Nat), .int .u64 (wd y 1 : Nat), .int .u64 (wd y 2 : Nat), .int .u64 (wd y 3 : Nat)] 24)) ga 24 #[.int .u64 (wd a 0 : Nat), .int .u64 (wd a 1 : Nat), .int .u64 (wd a 2 : Nat), .int .u64 (wd a 3 : Nat)] := Fa.out.alloc _
  have Nb : At (v9.alloc (.cells #[.int .u64 (wd y 0 : Nat), .int .u64 (wd y 1 : Nat), .int .u64 (wd y 2 : Nat), .int .u64 (wd y 3 : Nat)] 24)) gb 24 #[.int .u64 (wd b 0 : Nat), .int .u64 (wd b 1 : Nat), .int .u64 (wd b 2 : Nat), .int .u64 (wd b 3 : Nat)] := Fb.out.alloc _
  have Nx : At (v9.alloc (.cells #[.int .u64 (wd y 0 : Nat), .int .u64 (wd y 1 : Nat), .int .u64 (wd y 2 : Nat), .int .u64 (wd y 3 : Nat)] 24)) gx 24 #[.int .u64 (wd x 0 : Nat), .int .u64 (wd x 1 : Nat), .int .u64 (wd x 2 : Nat), .int .u64 (wd x 3 : Nat)] := Fx.out.alloc _
  have NB : Below w.heap.size w (v9.alloc (.cells #[.int .u64 (wd y 0 : Nat), .int .u64 (wd y 1 : Nat), .int .u64 (wd y 2 : Nat), .int .u64 (wd y 3 : Nat)] 24)) := gr_alloc BW.out _
  clear BW Fm Fa Fb Fx
  generalize (v9.alloc (.cells #[.int .u64 (wd y 0 : Nat), .int .u64 (wd y 1 : Nat), .int .u64 (wd y 2 : Nat), .int .u64 (wd y 3 : Nat)] 24)) = W10 at *
  generalize v9.heap.size = gy at *
  have Fm := Lib.hid Nm
  have Fa := Lib.hid Na
  have Fb := Lib.hid Nb
  have Fx := Lib.hid Nx
  have Fy := Lib.hid Ny
  have BW := Lib.hid NB
  clear NB Nm Na Nb Nx Ny
  try simp only [List.append_eq, List.cons_append, List.nil_append]
  refine wp_region_noPanic ?_
  refine wp_region_held_drew (S := fun w' => At w' ga 24 #[.int .u64 (wd a 0 : Nat), .int .u64 (wd a 1 : Nat), .int .u64 (wd a 2 : Nat), .int .u64 (wd a 3 : Nat)] ∧ At w' gm 24 #[.int .u64 (wd M 0 : Nat), .int .u64 (wd M 1 : Nat), .int .u64 (wd M 2 : Nat), .int .u64 (wd M 3 : Nat)] ∧ At w' gx 24 #[.int .u64 (wd x 0 : Nat), .int .u64 (wd x 1 : Nat), .int .u64 (wd x 2 : Nat), .int .u64 (wd x 3 : Nat)]) (by kernel_rfl) (⟨Fa.out.drew, Fm.out.drew, Fx.out.drew⟩) (fun _ => ?_)
  refine wpAnyH_cores (fuel := 0) (⟨0, 46, [], Kind.val (.int .i64 0), true⟩ :: ⟨1, 47, [0], Kind.val (.bool true), true⟩ :: ⟨2, 48, [1], Kind.val (.agg #[.int .u64 (wd a 0 : Nat), .int .u64 (wd a 1 : Nat), .int .u64 (wd a 2 : Nat), .int .u64 (wd a 3 : Nat)]), true⟩ :: ⟨3, 49, [2], Kind.val (.agg #[.int .u64 (wd M 0 : Nat), .int .u64 (wd M 1 : Nat), .int .u64 (wd M 2 : Nat), .int .u64 (wd M 3 : Nat)]), true⟩ :: ⟨4, 50, [2, 3], Kind.val (.agg #[.int .u64 (wd Z 0 : Nat), .int .u64 (wd Z 1 : Nat), .int .u64 (wd Z 2 : Nat), .int .u64 (wd Z 3 : Nat)]), false⟩ :: ⟨5, 51, [4], Kind.val (.agg #[.int .u64 (wd Z 0 : Nat), .int .u64 (wd Z 1 : Nat), .int .u64 (wd Z 2 : Nat), .int .u64 (wd Z 3 : Nat)]), false⟩ :: ⟨6, 52, [4, 5], Kind.val (.bool true), true⟩ :: ⟨7, 53, [1, 6], Kind.val (.bool false), true⟩ :: ⟨8, 54, [7], Kind.val (.bool false), true⟩ :: ⟨9, 55, [8], Kind.val (.int .i64 0), true⟩ :: ⟨10, 56, [8, 9], Kind.val (.bool false), true⟩ :: ⟨11, 57, [8, 10], Kind.val (.bool false), true⟩ :: ⟨12, 58, [11], Kind.val (undef), true⟩ :: ⟨13, 59, [11, 12], Kind.val (undef), true⟩ :: ⟨14, 60, [11, 13], Kind.val (undef), true⟩ :: ⟨15, 61, [14], Kind.val (undef), true⟩ :: ⟨16, 62, [14, 15], Kind.val (undef), true⟩ :: ⟨17, 63, [14, 15, 16], Kind.val (undef), true⟩ :: ⟨18, 64, [11, 14, 17], Kind.val (undef), true⟩ :: ⟨19, 65, [8, 11, 18], Kind.val (.bool false), true⟩ :: ⟨20, 66, [8, 19], Kind.val (.bool false), true⟩ :: []) _ _ W10 _ ?_ ?_ ?_ ?_ ?_ ?_ ?_ ?_ ?_ ?_ ?_
  · rfl
  · kernel_rfl
  · exact of_decide_eq_true (by kernel_rfl)
  · exact all_cons ⟨_, by rfl, by rfl⟩ (all_cons ⟨_, by rfl, by rfl⟩ (all_cons ⟨_, by rfl, by rfl⟩ (all_cons ⟨_, by rfl, by rfl⟩ (all_cons ⟨_, by rfl, by rfl⟩ (all_cons ⟨_, by rfl, by rfl⟩ (all_cons ⟨_, by rfl, by rfl⟩ (all_cons ⟨_, by rfl, by rfl⟩ (all_cons ⟨_, by rfl, by rfl⟩ (all_cons ⟨_, by rfl, by rfl⟩ (all_cons ⟨_, by rfl, by rfl⟩ (all_cons ⟨_, by rfl, by rfl⟩ (all_cons ⟨_, by rfl, by rfl⟩ (all_cons ⟨_, by rfl, by rfl⟩ (all_cons ⟨_, by rfl, by rfl⟩ (all_cons ⟨_, by rfl, by rfl⟩ (all_cons ⟨_, by rfl, by rfl⟩ (all_cons ⟨_, by rfl, by rfl⟩ (all_cons ⟨_, by rfl, by rfl⟩ (all_cons ⟨_, by rfl, by rfl⟩ (all_cons ⟨_, by rfl, by rfl⟩ (all_nil)))))))))))))))))))))
  · exact fun _ hb => ⟨Fa.out.on hb, Fm.out.on hb, Fx.out.on hb⟩
  · exact (Below.refl _ _).drew
  · kernel_rfl
  · exact fun _ _ _ _ _ h => h
  · refine all_cons ?_ (all_cons ?_ (all_cons ?_ (all_cons ?_ (all_cons ?_ (all_cons ?_ (all_cons ?_ (all_cons ?_ (all_cons ?_ (all_cons ?_ (all_cons ?_ (all_cons ?_ (all_cons ?_ (all_cons ?_ (all_cons ?_ (all_cons ?_ (all_cons ?_ (all_cons ?_ (all_cons ?_ (all_cons ?_ (all_cons ?_ (all_nil)))))))))))))))))))))
    · exact coreG_move _ _ _ _ _ _ _ (by rfl) (by rfl) (wants_none) (known_old 8 _ (of_decide_eq_true (by rfl)) (by rfl))
    · exact coreG_bin _ _ _ _ _ _ _ _ _ _ _ _ _ (by rfl) (by rfl) (wants_none) (known_core 0 46 _ _ (of_decide_eq_true (by rfl)) (by rfl) (by rfl) (by rfl)) (known_const _) ((fun ρ w hx hy => by simp only [execOp, hx, hy]; simp [go_sem]))
    · exact coreG_loadP _ _ _ _ _ _ ga _ _ _ _ (by rfl) (by rfl) (wants_none) (known_old 5 _ (of_decide_eq_true (by rfl)) (by rfl)) (fun _ hs => hs.1)
    · exact coreG_loadP _ _ _ _ _ _ gm _ _ _ _ (by rfl) (by rfl) (wants_none) (known_old 3 _ (of_decide_eq_true (by rfl)) (by rfl)) (fun _ hs => hs.2.1)
    · exact core_pureAs _ (by rfl)
    · exact core_pureAs _ (by rfl)
    · exact coreG_bin _ _ _ _ _ _ _ _ _ _ _ _ _ (by rfl) (by rfl) (wants_none) (known_core 4 50 _ _ (of_decide_eq_true (by rfl)) (by rfl) (by rfl) (by rfl)) (known_core 5 51 _ _ (of_decide_eq_true (by rfl)) (by rfl) (by rfl) (by rfl)) (eql_run true _ _ _ _ _ _ _ _ _ _ _ _ _ _ _ (eqY Z))
    · exact coreG_bin _ _ _ _ _ _ _ _ _ _ _ _ _ (by rfl) (by rfl) (wants_none) (known_core 1 47 _ _ (of_decide_eq_true (by rfl)) (by rfl) (by rfl) (by rfl)) (known_core 6 52 _ _ (of_decide_eq_true (by rfl)) (by rfl) (by rfl) (by rfl)) ((fun ρ w hx hy => by simp only [execOp, hx, hy]; simp [go_sem]))
    · exact coreG_move _ _ _ _ _ _ _ (by rfl) (by rfl) (wants_none) (known_core 7 53 _ _ (of_decide_eq_true (by rfl)) (by rfl) (by rfl) (by rfl))
    · exact coreG_move _ _ _ _ _ _ _ (by rfl) (by rfl) (wants_core 8 54 8 _ _ _ (by rfl) (by rfl) (by rfl) (known_core 8 54 _ _ (of_decide_eq_true (by rfl)) (by rfl) (by rfl) (by rfl)) _ (by rfl)) (known_old 8 _ (of_decide_eq_true (by rfl)) (by rfl))
    · exact coreG_bin _ _ _ _ _ _ _ _ _ _ _ _ _ (by rfl) (by rfl) (wants_core 8 54 8 _ _ _ (by rfl) (by rfl) (by rfl) (known_core 8 54 _ _ (of_decide_eq_true (by rfl)) (by rfl) (by rfl) (by rfl)) _ (by rfl)) (known_core 9 55 _ _ (of_decide_eq_true (by rfl)) (by rfl) (by rfl) (by rfl)) (known_const _) ((fun ρ w hx hy => by simp only [execOp, hx, hy]; simp [go_sem]))
    · exact coreG_move _ _ _ _ _ _ _ (by rfl) (by rfl) (wants_core 8 54 8 _ _ _ (by rfl) (by rfl) (by rfl) (known_core 8 54 _ _ (of_decide_eq_true (by rfl)) (by rfl) (by rfl) (by rfl)) _ (by rfl)) (known_core 10 56 _ _ (of_decide_eq_true (by rfl)) (by rfl) (by rfl) (by rfl))
    · exact coreG_skip _ _ _ _ _ _ (by rfl) (by rfl) (wants_core 11 57 11 _ _ _ (by rfl) (by rfl) (by rfl) (known_core 11 57 _ _ (of_decide_eq_true (by rfl)) (by rfl) (by rfl) (by rfl)) _ (by rfl))
    · exact coreG_skip _ _ _ _ _ _ (by rfl) (by rfl) (wants_core 11 57 11 _ _ _ (by rfl) (by rfl) (by rfl) (known_core 11 57 _ _ (of_decide_eq_true (by rfl)) (by rfl) (by rfl) (by rfl)) _ (by rfl))
    · exact coreG_skip _ _ _ _ _ _ (by rfl) (by rfl) (wants_core 11 57 11 _ _ _ (by rfl) (by rfl) (by rfl) (known_core 11 57 _ _ (of_decide_eq_true (by rfl)) (by rfl) (by rfl) (by rfl)) _ (by rfl))
    · exact coreG_skip _ _ _ _ _ _ (by rfl) (by rfl) (wants_undef 14 60 14 _ _ (by rfl) (by rfl) (by rfl) (known_core 14 60 _ _ (of_decide_eq_true (by rfl)) (by rfl) (by rfl) (by rfl)))
    · exact coreG_skip _ _ _ _ _ _ (by rfl) (by rfl) (wants_undef 14 60 14 _ _ (by rfl) (by rfl) (by rfl) (known_core 14 60 _ _ (of_decide_eq_true (by rfl)) (by rfl) (by rfl) (by rfl)))
    · exact coreG_skip _ _ _ _ _ _ (by rfl) (by rfl) (wants_undef 14 60 14 _ _ (by rfl) (by rfl) (by rfl) (known_core 14 60 _ _ (of_decide_eq_true (by rfl)) (by rfl) (by rfl) (by rfl)))
    · exact coreG_skip _ _ _ _ _ _ (by rfl) (by rfl) (wants_core 11 57 11 _ _ _ (by rfl) (by rfl) (by rfl) (known_core 11 57 _ _ (of_decide_eq_true (by rfl)) (by rfl) (by rfl) (by rfl)) _ (by rfl))
    · exact coreG_pick _ _ _ _ _ _ _ _ _ _ _ _ (by rfl) (by rfl) (wants_core 8 54 8 _ _ _ (by rfl) (by rfl) (by rfl) (known_core 8 54 _ _ (of_decide_eq_true (by rfl)) (by rfl) (by rfl) (by rfl)) _ (by rfl)) (known_core 11 57 _ _ (of_decide_eq_true (by rfl)) (by rfl) (by rfl) (by rfl)) (known_core 18 64 _ _ (of_decide_eq_true (by rfl)) (by rfl) (by rfl) (by rfl)) (known_const _) (by rfl)
    · exact coreG_pick _ _ _ _ _ _ _ _ _ _ _ _ (by rfl) (by rfl) (wants_none) (known_core 8 54 _ _ (of_decide_eq_true (by rfl)) (by rfl) (by rfl) (by rfl)) (known_const _) (known_core 19 65 _ _ (of_decide_eq_true (by rfl)) (by rfl) (by rfl) (by rfl)) (by rfl)
  · refine all_cons ?_ (all_cons ?_ (all_cons ?_ (all_cons ?_ (all_cons ?_ (all_cons ?_ (all_cons ?_ (all_cons ?_ (all_cons ?_ (all_cons ?_ (all_cons ?_ (all_cons ?_ (all_cons ?_ (all_cons ?_ (all_cons ?_ (all_cons ?_ (all_cons ?_ (all_cons ?_ (all_cons ?_ (all_cons ?_ (all_cons ?_ (all_nil)))))))))))))))))))))
    · exact core_stepAs _ (by rfl)
    · exact core_stepAs _ (by rfl)
    · exact core_stepAs _ (by rfl)
    · exact core_stepAs _ (by rfl)
    · exact fun _ => coreG_call _ 15 _ _ [.tmp 48, .tmp 49] _ _ _ _ _ _ _ (by rfl) Try.func15 (by kernel_rfl) (by rfl) (by rfl) (wants_none) (.cons (known_core 2 48 _ _ (of_decide_eq_true (by rfl)) (by rfl) (by rfl) (by rfl)) (.cons (known_core 3 49 _ _ (of_decide_eq_true (by rfl)) (by rfl) (by rfl) (by rfl)) .nil)) (HCM.out)
    · exact fun _ => coreG_call _ 28 _ _ [.const (.int .u64 1)] _ _ _ _ _ _ _ (by rfl) Try.func28 (by kernel_rfl) (by rfl) (by rfl) (wants_none) (.cons (known_const _) .nil) (HO.out)
    · exact core_stepAs _ (by rfl)
    · exact core_stepAs _ (by rfl)
    · exact core_stepAs _ (by rfl)
    · exact core_stepAs _ (by rfl)
    · exact core_stepAs _ (by rfl)
    · exact core_stepAs _ (by rfl)
    · exact core_stepAs _ (by rfl)
    · exact core_stepAs _ (by rfl)
    · exact core_stepAs _ (by rfl)
    · exact core_stepAs _ (by rfl)
    · exact core_stepAs _ (by rfl)
    · exact core_stepAs _ (by rfl)
    · exact core_stepAs _ (by rfl)
    · exact core_stepAs _ (by rfl)
    · exact core_stepAs _ (by rfl)
  intro vs y11 hc
  obtain ⟨vv0, vv1, vv2, vv3, vv4, vv5, vv6, vv7, vv8, vv9, vv10, vv11, vv12, vv13, vv14, vv15, vv16, vv17, vv18, vv19, vv20, rfl⟩ := len21 vs hc.lv
  have qq0 : vv0 = .int .i64 0 := by obtain ⟨xx, hx, hy⟩ := hc.ok 0 _ rfl rfl; exact (Option.some.inj (show some vv0 = some xx from hx)).trans hy
  have qq1 : vv1 = .bool true := by obtain ⟨xx, hx, hy⟩ := hc.ok 1 _ rfl rfl; exact (Option.some.inj (show some vv1 = some xx from hx)).trans hy
  have qq2 : vv2 = .agg #[.int .u64 (wd a 0 : Nat), .int .u64 (wd a 1 : Nat), .int .u64 (wd a 2 : Nat), .int .u64 (wd a 3 : Nat)] := by obtain ⟨xx, hx, hy⟩ := hc.ok 2 _ rfl rfl; exact (Option.some.inj (show some vv2 = some xx from hx)).trans hy
  have qq3 : vv3 = .agg #[.int .u64 (wd M 0 : Nat), .int .u64 (wd M 1 : Nat), .int .u64 (wd M 2 : Nat), .int .u64 (wd M 3 : Nat)] := by obtain ⟨xx, hx, hy⟩ := hc.ok 3 _ rfl rfl; exact (Option.some.inj (show some vv3 = some xx from hx)).trans hy
  have qq4 : vv4 = .agg #[.int .u64 (wd Z 0 : Nat), .int .u64 (wd Z 1 : Nat), .int .u64 (wd Z 2 : Nat), .int .u64 (wd Z 3 : Nat)] := by obtain ⟨xx, hx, hy⟩ := hc.ok 4 _ rfl rfl; exact (Option.some.inj (show some vv4 = some xx from hx)).trans hy
  have qq5 : vv5 = .agg #[.int .u64 (wd Z 0 : Nat), .int .u64 (wd Z 1 : Nat), .int .u64 (wd Z 2 : Nat), .int .u64 (wd Z 3 : Nat)] := by obtain ⟨xx, hx, hy⟩ := hc.ok 5 _ rfl rfl; exact (Option.some.inj (show some vv5 = some xx from hx)).trans hy
  have qq6 : vv6 = .bool true := by obtain ⟨xx, hx, hy⟩ := hc.ok 6 _ rfl rfl; exact (Option.some.inj (show some vv6 = some xx from hx)).trans hy
  have qq7 : vv7 = .bool false := by obtain ⟨xx, hx, hy⟩ := hc.ok 7 _ rfl rfl; exact (Option.some.inj (show some vv7 = some xx from hx)).trans hy
  have qq8 : vv8 = .bool false := by obtain ⟨xx, hx, hy⟩ := hc.ok 8 _ rfl rfl; exact (Option.some.inj (show some vv8 = some xx from hx)).trans hy
  have qq9 : vv9 = .int .i64 0 := by obtain ⟨xx, hx, hy⟩ := hc.ok 9 _ rfl rfl; exact (Option.some.inj (show some vv9 = some xx from hx)).trans hy
  have qq10 : vv10 = .bool false := by obtain ⟨xx, hx, hy⟩ := hc.ok 10 _ rfl rfl; exact (Option.some.inj (show some vv10 = some xx from hx)).trans hy
  have qq11 : vv11 = .bool false := by obtain ⟨xx, hx, hy⟩ := hc.ok 11 _ rfl rfl; exact (Option.some.inj (show some vv11 = some xx from hx)).trans hy
  have qq12 : vv12 = undef := by obtain ⟨xx, hx, hy⟩ := hc.ok 12 _ rfl rfl; exact (Option.some.inj (show some vv12 = some xx from hx)).trans hy
  have qq13 : vv13 = undef := by obtain ⟨xx, hx, hy⟩ := hc.ok 13 _ rfl rfl; exact (Option.some.inj (show some vv13 = some xx from hx)).trans hy
  have qq14 : vv14 = undef := by obtain ⟨xx, hx, hy⟩ := hc.ok 14 _ rfl rfl; exact (Option.some.inj (show some vv14 = some xx from hx)).trans hy
  have qq15 : vv15 = undef := by obtain ⟨xx, hx, hy⟩ := hc.ok 15 _ rfl rfl; exact (Option.some.inj (show some vv15 = some xx from hx)).trans hy
  have qq16 : vv16 = undef := by obtain ⟨xx, hx, hy⟩ := hc.ok 16 _ rfl rfl; exact (Option.some.inj (show some vv16 = some xx from hx)).trans hy
  have qq17 : vv17 = undef := by obtain ⟨xx, hx, hy⟩ := hc.ok 17 _ rfl rfl; exact (Option.some.inj (show some vv17 = some xx from hx)).trans hy
  have qq18 : vv18 = undef := by obtain ⟨xx, hx, hy⟩ := hc.ok 18 _ rfl rfl; exact (Option.some.inj (show some vv18 = some xx from hx)).trans hy
  have qq19 : vv19 = .bool false := by obtain ⟨xx, hx, hy⟩ := hc.ok 19 _ rfl rfl; exact (Option.some.inj (show some vv19 = some xx from hx)).trans hy
  have qq20 : vv20 = .bool false := by obtain ⟨xx, hx, hy⟩ := hc.ok 20 _ rfl rfl; exact (Option.some.inj (show some vv20 = some xx from hx)).trans hy
  have BZ := hc.bel
  clear hc
  have Nm := Fm.out.on BZ
  have Na := Fa.out.on BZ
  have Nb := Fb.out.on BZ
  have Nx := Fx.out.on BZ
  have Ny := Fy.out.on BZ
  have NB := bel_tr BW.out BZ
  clear BW BZ Fm Fa Fb Fx Fy
  subst qq0 qq1 qq2 qq3 qq4 qq5 qq6 qq7 qq8 qq9 qq10 qq11 qq12 qq13 qq14 qq15 qq16 qq17 qq18 qq19 qq20
  simp only [List.map_cons, List.map_nil, over, Act.put, List.setIfInBounds_toArray, List.set_cons_zero, List.set_cons_succ]
  refine wpAnyH_done (by kernel_rfl) ?_ _
  refine NoPanic.normal ?_
  have Fm := Lib.hid Nm
  have Fa := Lib.hid Na
  have Fb := Lib.hid Nb
  have Fx := Lib.hid Nx
  have Fy := Lib.hid Ny
  have BW := Lib.hid NB
  clear NB Nm Na Nb Nx Ny
  have La := Fa.out.lt
  have ca0 : y11.cell? ⟨ga, 0, none⟩ = some (.int .u64 (wd a 0 : Nat)) := Fa.out.cell 0
  have ca1 : y11.cell? ⟨ga, 1, none⟩ = some (.int .u64 (wd a 1 : Nat)) := Fa.out.cell 1
  have ca2 : y11.cell? ⟨ga, 2, none⟩ = some (.int .u64 (wd a 2 : Nat)) := Fa.out.cell 2
  have ca3 : y11.cell? ⟨ga, 3, none⟩ = some (.int .u64 (wd a 3 : Nat)) := Fa.out.cell 3
  have Lb := Fb.out.lt
  have cb0 : y11.cell? ⟨gb, 0, none⟩ = some (.int .u64 (wd b 0 : Nat)) := Fb.out.cell 0
  have cb1 : y11.cell? ⟨gb, 1, none⟩ = some (.int .u64 (wd b 1 : Nat)) := Fb.out.cell 1
  have cb2 : y11.cell? ⟨gb, 2, none⟩ = some (.int .u64 (wd b 2 : Nat)) := Fb.out.cell 2
  have cb3 : y11.cell? ⟨gb, 3, none⟩ = some (.int .u64 (wd b 3 : Nat)) := Fb.out.cell 3
  have Lm := Fm.out.lt
  have cm0 : y11.cell? ⟨gm, 0, none⟩ = some (.int .u64 (wd M 0 : Nat)) := Fm.out.cell 0
  have cm1 : y11.cell? ⟨gm, 1, none⟩ = some (.int .u64 (wd M 1 : Nat)) := Fm.out.cell 1
  have cm2 : y11.cell? ⟨gm, 2, none⟩ = some (.int .u64 (wd M 2 : Nat)) := Fm.out.cell 2
  have cm3 : y11.cell? ⟨gm, 3, none⟩ = some (.int .u64 (wd M 3 : Nat)) := Fm.out.cell 3
  go_wp2_with fail
  clear La ca0 ca1 ca2 ca3 Lb cb0 cb1 cb2 cb3 Lm cm0 cm1 cm2 cm3
  refine (HM1.out _).mono ?_
  rintro e v12 ⟨rfl, z12⟩
  have Nm := Lib.hid (Fm.out.on z12)
  have Na := Lib.hid (Fa.out.on z12)
  have Nb := Lib.hid (Fb.out.on z12)
  have Nx := Lib.hid (Fx.out.on z12)
  have Ny := Lib.hid (Fy.out.on z12)
  have NB := Lib.hid (bel_tr BW.out z12)
  clear BW z12 Fm Fa Fb Fx Fy
  have Fm := Nm
  have Fa := Na
  have Fb := Nb
  have Fx := Nx
  have Fy := Ny
  have BW := NB
  clear NB Nm Na Nb Nx Ny
  have Lm := Fm.out.lt
  have cm0 : v12.cell? ⟨gm, 0, none⟩ = some (.int .u64 (wd M 0 : Nat)) := Fm.out.cell 0
  have cm1 : v12.cell? ⟨gm, 1, none⟩ = some (.int .u64 (wd M 1 : Nat)) := Fm.out.cell 1
  have cm2 : v12.cell? ⟨gm, 2, none⟩ = some (.int .u64 (wd M 2 : Nat)) := Fm.out.cell 2
  have cm3 : v12.cell? ⟨gm, 3, none⟩ = some (.int .u64 (wd M 3 : Nat)) := Fm.out.cell 3
  go_wp2_with fail
  clear Lm cm0 cm1 cm2 cm3
  have Nab : At (v12.alloc (.cells #[.int .u64 (wd ab 0 : Nat), .int .u64 (wd ab 1 : Nat), .int .u64 (wd ab 2 : Nat), .int .u64 (wd ab 3 : Nat)] 24)) (v12.heap.size) 24 #[.int .u64 (wd ab 0 : Nat), .int .u64 (wd ab 1 : Nat), .int .u64 (wd ab 2 : Nat), .int .u64 (wd ab 3 : Nat)] := At.at_ _ _ _ _ (by simp)
  have Nm : At (v12.alloc (.cells #[.int .u64 (wd ab 0 : Nat), .int .u64 (wd ab 1 : Nat), .int .u64 (wd ab 2 : Nat), .int .u64 (wd ab 3 : Nat)] 24)) gm 24 #[.int .u64 (wd M 0 : Nat), .int .u64 (wd M 1 : Nat), .int .u64 (wd M 2 : Nat), .int .u64 (wd M 3 : Nat)] := Fm.out.alloc _
  have Na : At (v12.alloc (.cells #[.int .u64 (wd ab 0 : Nat), .int .u64 (wd ab 1 : Nat), .int .u64 (wd ab 2 : Nat), .int .u64 (wd ab 3 : Nat)] 24)) ga 24 #[.int .u64 (wd a 0 : Nat), .int .u64 (wd a 1 : Nat), .int .u64 (wd a 2 : Nat), .int .u64 (wd a 3 : Nat)] := Fa.out.alloc _
  have Nb : At (v12.alloc (.cells #[.int .u64 (wd ab 0 : Nat), .int .u64 (wd ab 1 : Nat), .int .u64 (wd ab 2 : Nat), .int .u64 (wd ab 3 : Nat)] 24)) gb 24 #[.int .u64 (wd b 0 : Nat), .int .u64 (wd b 1 : Nat), .int .u64 (wd b 2 : Nat), .int .u64 (wd b 3 : Nat)] := Fb.out.alloc _
  have Nx : At (v12.alloc (.cells #[.int .u64 (wd ab 0 : Nat), .int .u64 (wd ab 1 : Nat), .int .u64 (wd ab 2 : Nat), .int .u64 (wd ab 3 : Nat)] 24)) gx 24 #[.int .u64 (wd x 0 : Nat), .int .u64 (wd x 1 : Nat), .int .u64 (wd x 2 : Nat), .int .u64 (wd x 3 : Nat)] := Fx.out.alloc _
  have Ny : At (v12.alloc (.cells #[.int .u64 (wd ab 0 : Nat), .int .u64 (wd ab 1 : Nat), .int .u64 (wd ab 2 : Nat), .int .u64 (wd ab 3 : Nat)] 24)) gy 24 #[.int .u64 (wd y 0 : Nat), .int .u64 (wd y 1 : Nat), .int .u64 (wd y 2 : Nat), .int .u64 (wd y 3 : Nat)] := Fy.out.alloc _
  have NB : Below w.heap.size w (v12.alloc (.cells #[.int .u64 (wd ab 0 : Nat), .int .u64 (wd ab 1 : Nat), .int .u64 (wd ab 2 : Nat), .int .u64 (wd ab 3 : Nat)] 24)) := gr_alloc BW.out _
  clear BW Fm Fa Fb Fx Fy
  generalize (v12.alloc (.cells #[.int .u64 (wd ab 0 : Nat), .int .u64 (wd ab 1 : Nat), .int .u64 (wd ab 2 : Nat), .int .u64 (wd ab 3 : Nat)] 24)) = W13 at *
  generalize v12.heap.size = gab at *
  have Fm := Lib.hid Nm
  have Fa := Lib.hid Na
  have Fb := Lib.hid Nb
  have Fx := Lib.hid Nx
  have Fy := Lib.hid Ny
  have Fab := Lib.hid Nab
  have BW := Lib.hid NB
  clear NB Nm Na Nb Nx Ny Nab
  refine (HI3.out _).mono ?_
  rintro e v14 ⟨rfl, z14⟩
  have Nm := Lib.hid (Fm.out.on z14)
  have Na := Lib.hid (Fa.out.on z14)
  have Nb := Lib.hid (Fb.out.on z14)
  have Nx := Lib.hid (Fx.out.on z14)
  have Ny := Lib.hid (Fy.out.on z14)
  have Nab := Lib.hid (Fab.out.on z14)
  have NB := Lib.hid (bel_tr BW.out z14)
  clear BW z14 Fm Fa Fb Fx Fy Fab
  have Fm := Nm
  have Fa := Na
  have Fb := Nb
  have Fx := Nx
  have Fy := Ny
  have Fab := Nab
  have BW := NB
  clear NB Nm Na Nb Nx Ny Nab
  have La := Fa.out.lt
  have ca0 : v14.cell? ⟨ga, 0, none⟩ = some (.int .u64 (wd a 0 : Nat)) := Fa.out.cell 0
  have ca1 : v14.cell? ⟨ga, 1, none⟩ = some (.int .u64 (wd a 1 : Nat)) := Fa.out.cell 1
  have ca2 : v14.cell? ⟨ga, 2, none⟩ = some (.int .u64 (wd a 2 : Nat)) := Fa.out.cell 2
  have ca3 : v14.cell? ⟨ga, 3, none⟩ = some (.int .u64 (wd a 3 : Nat)) := Fa.out.cell 3
  have Lx := Fx.out.lt
  have cx0 : v14.cell? ⟨gx, 0, none⟩ = some (.int .u64 (wd x 0 : Nat)) := Fx.out.cell 0
  have cx1 : v14.cell? ⟨gx, 1, none⟩ = some (.int .u64 (wd x 1 : Nat)) := Fx.out.cell 1
  have cx2 : v14.cell? ⟨gx, 2, none⟩ = some (.int .u64 (wd x 2 : Nat)) := Fx.out.cell 2
  have cx3 : v14.cell? ⟨gx, 3, none⟩ = some (.int .u64 (wd x 3 : Nat)) := Fx.out.cell 3
  have Lm := Fm.out.lt
  have cm0 : v14.cell? ⟨gm, 0, none⟩ = some (.int .u64 (wd M 0 : Nat)) := Fm.out.cell 0
  have cm1 : v14.cell? ⟨gm, 1, none⟩ = some (.int .u64 (wd M 1 : Nat)) := Fm.out.cell 1
  have cm2 : v14.cell? ⟨gm, 2, none⟩ = some (.int .u64 (wd M 2 : Nat)) := Fm.out.cell 2
  have cm3 : v14.cell? ⟨gm, 3, none⟩ = some (.int .u64 (wd M 3 : Nat)) := Fm.out.cell 3
  go_wp2_with fail
  clear La ca0 ca1 ca2 ca3 Lx cx0 cx1 cx2 cx3 Lm cm0 cm1 cm2 cm3
  have Nz : At (v14.alloc (.cells #[.int .u64 (wd z 0 : Nat), .int .u64 (wd z 1 : Nat), .int .u64 (wd z 2 : Nat), .int .u64 (wd z 3 : Nat)] 24)) (v14.heap.size) 24 #[.int .u64 (wd z 0 : Nat), .int .u64 (wd z 1 : Nat), .int .u64 (wd z 2 : Nat), .int .u64 (wd z 3 : Nat)] := At.at_ _ _ _ _ (by simp)
  have Nm : At (v14.alloc (.cells #[.int .u64 (wd z 0 : Nat), .int .u64 (wd z 1 : Nat), .int .u64 (wd z 2 : Nat), .int .u64 (wd z 3 : Nat)] 24)) gm 24 #[.int .u64 (wd M 0 : Nat), .int .u64 (wd M 1 : Nat), .int .u64 (wd M 2 : Nat), .int .u64 (wd M 3 : Nat)] := Fm.out.alloc _
  have Na : At (v14.alloc (.cells #[.int .u64 (wd z 0 : Nat), .int .u64 (wd z 1 : Nat), .int .u64 (wd z 2 : Nat), .int .u64 (wd z 3 : Nat)] 24)) ga 24 #[.int .u64 (wd a 0 : Nat), .int .u64 (wd a 1 : Nat), .int .u64 (wd a 2 : Nat), .int .u64 (wd a 3 : Nat)] := Fa.out.alloc _
  have Nb : At (v14.alloc (.cells #[.int .u64 (wd z 0 : Nat), .int .u64 (wd z 1 : Nat), .int .u64 (wd z 2 : Nat), .int .u64 (wd z 3 : Nat)] 24)) gb 24 #[.int .u64 (wd b 0 : Nat), .int .u64 (wd b 1 : Nat), .int .u64 (wd b 2 : Nat), .int .u64 (wd b 3 : Nat)] := Fb.out.alloc _
  have Nx : At (v14.alloc (.cells #[.int .u64 (wd z 0 : Nat), .int .u64 (wd z 1 : Nat), .int .u64 (wd z 2 : Nat), .int .u64 (wd z 3 : Nat)] 24)) gx 24 #[.int .u64 (wd x 0 : Nat), .int .u64 (wd x 1 : Nat), .int .u64 (wd x 2 : Nat), .int .u64 (wd x 3 : Nat)] := Fx.out.alloc _
  have Ny : At (v14.alloc (.cells #[.int .u64 (wd z 0 : Nat), .int .u64 (wd z 1 : Nat), .int .u64 (wd z 2 : Nat), .int .u64 (wd z 3 : Nat)] 24)) gy 24 #[.int .u64 (wd y 0 : Nat), .int .u64 (wd y 1 : Nat), .int .u64 (wd y 2 : Nat), .int .u64 (wd y 3 : Nat)] := Fy.out.alloc _
  have Nab : At (v14.alloc (.cells #[.int .u64 (wd z 0 : Nat), .int .u64 (wd z 1 : Nat), .int .u64 (wd z 2 : Nat), .int .u64 (wd z 3 : Nat)] 24)) gab 24 #[.int .u64 (wd ab 0 : Nat), .int .u64 (wd ab 1 : Nat), .int .u64 (wd ab 2 : Nat), .int .u64 (wd ab 3 : Nat)] := Fab.out.alloc _
  have NB : Below w.heap.size w (v14.alloc (.cells #[.int .u64 (wd z 0 : Nat), .int .u64 (wd z 1 : Nat), .int .u64 (wd z 2 : Nat), .int .u64 (wd z 3 : Nat)] 24)) := gr_alloc BW.out _
  clear BW Fm Fa Fb Fx Fy Fab
  generalize (v14.alloc (.cells #[.int .u64 (wd z 0 : Nat), .int .u64 (wd z 1 : Nat), .int .u64 (wd z 2 : Nat), .int .u64 (wd z 3 : Nat)] 24)) = W15 at *
  generalize v14.heap.size = gz at *
  have Fm := Lib.hid Nm
  have Fa := Lib.hid Na
  have Fb := Lib.hid Nb
  have Fx := Lib.hid Nx
  have Fy := Lib.hid Ny
  have Fab := Lib.hid Nab
  have Fz := Lib.hid Nz
  have BW := Lib.hid NB
  clear NB Nm Na Nb Nx Ny Nab Nz
  clear Fab
  clear Fb
  refine (HM2.out _).mono ?_
  rintro e v16 ⟨rfl, z16⟩
  have Nm := Lib.hid (Fm.out.on z16)
  have Na := Lib.hid (Fa.out.on z16)
  have Nx := Lib.hid (Fx.out.on z16)
  have Ny := Lib.hid (Fy.out.on z16)
  have Nz := Lib.hid (Fz.out.on z16)
  have NB := Lib.hid (bel_tr BW.out z16)
  clear BW z16 Fm Fa Fx Fy Fz
  have Fm := Nm
  have Fa := Na
  have Fx := Nx
  have Fy := Ny
  have Fz := Nz
  have BW := NB
  clear NB Nm Na Nx Ny Nz
  have Lx := Fx.out.lt
  have cx0 : v16.cell? ⟨gx, 0, none⟩ = some (.int .u64 (wd x 0 : Nat)) := Fx.out.cell 0
  have cx1 : v16.cell? ⟨gx, 1, none⟩ = some (.int .u64 (wd x 1 : Nat)) := Fx.out.cell 1
  have cx2 : v16.cell? ⟨gx, 2, none⟩ = some (.int .u64 (wd x 2 : Nat)) := Fx.out.cell 2
  have cx3 : v16.cell? ⟨gx, 3, none⟩ = some (.int .u64 (wd x 3 : Nat)) := Fx.out.cell 3
  have Lm := Fm.out.lt
  have cm0 : v16.cell? ⟨gm, 0, none⟩ = some (.int .u64 (wd M 0 : Nat)) := Fm.out.cell 0
  have cm1 : v16.cell? ⟨gm, 1, none⟩ = some (.int .u64 (wd M 1 : Nat)) := Fm.out.cell 1
  have cm2 : v16.cell? ⟨gm, 2, none⟩ = some (.int .u64 (wd M 2 : Nat)) := Fm.out.cell 2
  have cm3 : v16.cell? ⟨gm, 3, none⟩ = some (.int .u64 (wd M 3 : Nat)) := Fm.out.cell 3
  go_wp2_with fail
  clear Lx cx0 cx1 cx2 cx3 Lm cm0 cm1 cm2 cm3
  have Non : At (v16.alloc (.cells #[.int .u64 (wd Z 0 : Nat), .int .u64 (wd Z 1 : Nat), .int .u64 (wd Z 2 : Nat), .int .u64 (wd Z 3 : Nat)] 24)) (v16.heap.size) 24 #[.int .u64 (wd Z 0 : Nat), .int .u64 (wd Z 1 : Nat), .int .u64 (wd Z 2 : Nat), .int .u64 (wd Z 3 : Nat)] := At.at_ _ _ _ _ (by simp)
  have Nm : At (v16.alloc (.cells #[.int .u64 (wd Z 0 : Nat), .int .u64 (wd Z 1 : Nat), .int .u64 (wd Z 2 : Nat), .int .u64 (wd Z 3 : Nat)] 24)) gm 24 #[.int .u64 (wd M 0 : Nat), .int .u64 (wd M 1 : Nat), .int .u64 (wd M 2 : Nat), .int .u64 (wd M 3 : Nat)] := Fm.out.alloc _
  have Na : At (v16.alloc (.cells #[.int .u64 (wd Z 0 : Nat), .int .u64 (wd Z 1 : Nat), .int .u64 (wd Z 2 : Nat), .int .u64 (wd Z 3 : Nat)] 24)) ga 24 #[.int .u64 (wd a 0 : Nat), .int .u64 (wd a 1 : Nat), .int .u64 (wd a 2 : Nat), .int .u64 (wd a 3 : Nat)] := Fa.out.alloc _
  have Nx : At (v16.alloc (.cells #[.int .u64 (wd Z 0 : Nat), .int .u64 (wd Z 1 : Nat), .int .u64 (wd Z 2 : Nat), .int .u64 (wd Z 3 : Nat)] 24)) gx 24 #[.int .u64 (wd x 0 : Nat), .int .u64 (wd x 1 : Nat), .int .u64 (wd x 2 : Nat), .int .u64 (wd x 3 : Nat)] := Fx.out.alloc _
  have Ny : At (v16.alloc (.cells #[.int .u64 (wd Z 0 : Nat), .int .u64 (wd Z 1 : Nat), .int .u64 (wd Z 2 : Nat), .int .u64 (wd Z 3 : Nat)] 24)) gy 24 #[.int .u64 (wd y 0 : Nat), .int .u64 (wd y 1 : Nat), .int .u64 (wd y 2 : Nat), .int .u64 (wd y 3 : Nat)] := Fy.out.alloc _
  have Nz : At (v16.alloc (.cells #[.int .u64 (wd Z 0 : Nat), .int .u64 (wd Z 1 : Nat), .int .u64 (wd Z 2 : Nat), .int .u64 (wd Z 3 : Nat)] 24)) gz 24 #[.int .u64 (wd z 0 : Nat), .int .u64 (wd z 1 : Nat), .int .u64 (wd z 2 : Nat), .int .u64 (wd z 3 : Nat)] := Fz.out.alloc _
  have NB : Below w.heap.size w (v16.alloc (.cells #[.int .u64 (wd Z 0 : Nat), .int .u64 (wd Z 1 : Nat), .int .u64 (wd Z 2 : Nat), .int .u64 (wd Z 3 : Nat)] 24)) := gr_alloc BW.out _
  clear BW Fm Fa Fx Fy Fz
  generalize (v16.alloc (.cells #[.int .u64 (wd Z 0 : Nat), .int .u64 (wd Z 1 : Nat), .int .u64 (wd Z 2 : Nat), .int .u64 (wd Z 3 : Nat)] 24)) = W17 at *
  generalize v16.heap.size = gon at *
  have Fm := Lib.hid Nm
  have Fa := Lib.hid Na
  have Fx := Lib.hid Nx
  have Fy := Lib.hid Ny
  have Fz := Lib.hid Nz
  have Fon := Lib.hid Non
  have BW := Lib.hid NB
  clear NB Nm Na Nx Ny Nz Non
  refine (HI4.out _).mono ?_
  rintro e v18 ⟨rfl, z18⟩
  have Nm := Lib.hid (Fm.out.on z18)
  have Na := Lib.hid (Fa.out.on z18)
  have Nx := Lib.hid (Fx.out.on z18)
  have Ny := Lib.hid (Fy.out.on z18)
  have Nz := Lib.hid (Fz.out.on z18)
  have Non := Lib.hid (Fon.out.on z18)
  have NB := Lib.hid (bel_tr BW.out z18)
  clear BW z18 Fm Fa Fx Fy Fz Fon
  have Fm := Nm
  have Fa := Na
  have Fx := Nx
  have Fy := Ny
  have Fz := Nz
  have Fon := Non
  have BW := NB
  clear NB Nm Na Nx Ny Nz Non
  go_wp2_with fail
  have Nbk : At (v18.alloc (.cells #[.int .u64 (wd a 0 : Nat), .int .u64 (wd a 1 : Nat), .int .u64 (wd a 2 : Nat), .int .u64 (wd a 3 : Nat)] 24)) (v18.heap.size) 24 #[.int .u64 (wd a 0 : Nat), .int .u64 (wd a 1 : Nat), .int .u64 (wd a 2 : Nat), .int .u64 (wd a 3 : Nat)] := At.at_ _ _ _ _ (by simp)
  have Nm : At (v18.alloc (.cells #[.int .u64 (wd a 0 : Nat), .int .u64 (wd a 1 : Nat), .int .u64 (wd a 2 : Nat), .int .u64 (wd a 3 : Nat)] 24)) gm 24 #[.int .u64 (wd M 0 : Nat), .int .u64 (wd M 1 : Nat), .int .u64 (wd M 2 : Nat), .int .u64 (wd M 3 : Nat)] := Fm.out.alloc _
  have Na : At (v18.alloc (.cells #[.int .u64 (wd a 0 : Nat), .int .u64 (wd a 1 : Nat), .int .u64 (wd a 2 : Nat), .int .u64 (wd a 3 : Nat)] 24)) ga 24 #[.int .u64 (wd a 0 : Nat), .int .u64 (wd a 1 : Nat), .int .u64 (wd a 2 : Nat), .int .u64 (wd a 3 : Nat)] := Fa.out.alloc _
  have Nx : At (v18.alloc (.cells #[.int .u64 (wd a 0 : Nat), .int .u64 (wd a 1 : Nat), .int .u64 (wd a 2 : Nat), .int .u64 (wd a 3 : Nat)] 24)) gx 24 #[.int .u64 (wd x 0 : Nat), .int .u64 (wd x 1 : Nat), .int .u64 (wd x 2 : Nat), .int .u64 (wd x 3 : Nat)] := Fx.out.alloc _
  have Ny : At (v18.alloc (.cells #[.int .u64 (wd a 0 : Nat), .int .u64 (wd a 1 : Nat), .int .u64 (wd a 2 : Nat), .int .u64 (wd a 3 : Nat)] 24)) gy 24 #[.int .u64 (wd y 0 : Nat), .int .u64 (wd y 1 : Nat), .int .u64 (wd y 2 : Nat), .int .u64 (wd y 3 : Nat)] := Fy.out.alloc _
  have Nz : At (v18.alloc (.cells #[.int .u64 (wd a 0 : Nat), .int .u64 (wd a 1 : Nat), .int .u64 (wd a 2 : Nat), .int .u64 (wd a 3 : Nat)] 24)) gz 24 #[.int .u64 (wd z 0 : Nat), .int .u64 (wd z 1 : Nat), .int .u64 (wd z 2 : Nat), .int .u64 (wd z 3 : Nat)] := Fz.out.alloc _
  have Non : At (v18.alloc (.cells #[.int .u64 (wd a 0 : Nat), .int .u64 (wd a 1 : Nat), .int .u64 (wd a 2 : Nat), .int .u64 (wd a 3 : Nat)] 24)) gon 24 #[.int .u64 (wd Z 0 : Nat), .int .u64 (wd Z 1 : Nat), .int .u64 (wd Z 2 : Nat), .int .u64 (wd Z 3 : Nat)] := Fon.out.alloc _
  have NB : Below w.heap.size w (v18.alloc (.cells #[.int .u64 (wd a 0 : Nat), .int .u64 (wd a 1 : Nat), .int .u64 (wd a 2 : Nat), .int .u64 (wd a 3 : Nat)] 24)) := gr_alloc BW.out _
  clear BW Fm Fa Fx Fy Fz Fon
  generalize (v18.alloc (.cells #[.int .u64 (wd a 0 : Nat), .int .u64 (wd a 1 : Nat), .int .u64 (wd a 2 : Nat), .int .u64 (wd a 3 : Nat)] 24)) = W19 at *
  generalize v18.heap.size = gbk at *
  have Fm := Lib.hid Nm
  have Fa := Lib.hid Na
  have Fx := Lib.hid Nx
  have Fy := Lib.hid Ny
  have Fz := Lib.hid Nz
  have Fon := Lib.hid Non
  have Fbk := Lib.hid Nbk
  have BW := Lib.hid NB
  clear NB Nm Na Nx Ny Nz Non Nbk
  try simp only [List.append_eq, List.cons_append, List.nil_append]
  refine wp_region_noPanic ?_
  refine wp_region_held_drew (S := fun w' => At w' gon 24 #[.int .u64 (wd Z 0 : Nat), .int .u64 (wd Z 1 : Nat), .int .u64 (wd Z 2 : Nat), .int .u64 (wd Z 3 : Nat)] ∧ At w' gbk 24 #[.int .u64 (wd a 0 : Nat), .int .u64 (wd a 1 : Nat), .int .u64 (wd a 2 : Nat), .int .u64 (wd a 3 : Nat)] ∧ At w' ga 24 #[.int .u64 (wd a 0 : Nat), .int .u64 (wd a 1 : Nat), .int .u64 (wd a 2 : Nat), .int .u64 (wd a 3 : Nat)]) (by kernel_rfl) (⟨Fon.out.drew, Fbk.out.drew, Fa.out.drew⟩) (fun _ => ?_)
  refine wpAnyH_cores (fuel := 0) (⟨0, 109, [], Kind.val (.int .i64 0), true⟩ :: ⟨1, 110, [0], Kind.val (.bool false), true⟩ :: ⟨2, 111, [1], Kind.val (.bool false), true⟩ :: ⟨3, 112, [2], Kind.val (.int .i64 0), true⟩ :: ⟨4, 113, [2, 3], Kind.val (.bool false), true⟩ :: ⟨5, 114, [2, 4], Kind.val (.bool false), true⟩ :: ⟨6, 115, [5], Kind.val (.bool false), true⟩ :: ⟨7, 116, [6], Kind.val (.agg #[.int .u64 (wd Z 0 : Nat), .int .u64 (wd Z 1 : Nat), .int .u64 (wd Z 2 : Nat), .int .u64 (wd Z 3 : Nat)]), true⟩ :: ⟨8, 117, [6, 7], Kind.val (.agg #[.int .u64 (wd Z 0 : Nat), .int .u64 (wd Z 1 : Nat), .int .u64 (wd Z 2 : Nat), .int .u64 (wd Z 3 : Nat)]), false⟩ :: ⟨9, 118, [6, 7, 8], Kind.val (.bool false), true⟩ :: ⟨10, 119, [6, 9], Kind.val (.bool false), true⟩ :: ⟨11, 120, [10], Kind.val (.bool false), true⟩ :: ⟨12, 121, [11], Kind.val (.agg #[.int .u64 (wd a 0 : Nat), .int .u64 (wd a 1 : Nat), .int .u64 (wd a 2 : Nat), .int .u64 (wd a 3 : Nat)]), true⟩ :: ⟨13, 122, [11, 12], Kind.val (.agg #[.int .u64 (wd a 0 : Nat), .int .u64 (wd a 1 : Nat), .int .u64 (wd a 2 : Nat), .int .u64 (wd a 3 : Nat)]), true⟩ :: ⟨14, 123, [11, 12, 13], Kind.val (.bool false), true⟩ :: ⟨15, 124, [11, 14], Kind.val (.bool false), true⟩ :: []) _ _ W19 _ ?_ ?_ ?_ ?_ ?_ ?_ ?_ ?_ ?_ ?_ ?_
  · rfl
  · kernel_rfl
  · exact of_decide_eq_true (by kernel_rfl)
  · exact all_cons ⟨_, by rfl, by rfl⟩ (all_cons ⟨_, by rfl, by rfl⟩ (all_cons ⟨_, by rfl, by rfl⟩ (all_cons ⟨_, by rfl, by rfl⟩ (all_cons ⟨_, by rfl, by rfl⟩ (all_cons ⟨_, by rfl, by rfl⟩ (all_cons ⟨_, by rfl, by rfl⟩ (all_cons ⟨_, by rfl, by rfl⟩ (all_cons ⟨_, by rfl, by rfl⟩ (all_cons ⟨_, by rfl, by rfl⟩ (all_cons ⟨_, by rfl, by rfl⟩ (all_cons ⟨_, by rfl, by rfl⟩ (all_cons ⟨_, by rfl, by rfl⟩ (all_cons ⟨_, by rfl, by rfl⟩ (all_cons ⟨_, by rfl, by rfl⟩ (all_cons ⟨_, by rfl, by rfl⟩ (all_nil))))))))))))))))
  · exact fun _ hb => ⟨Fon.out.on hb, Fbk.out.on hb, Fa.out.on hb⟩
  · exact (Below.refl _ _).drew
  · kernel_rfl
  · exact fun _ _ _ _ _ h => h
  · refine all_cons ?_ (all_cons ?_ (all_cons ?_ (all_cons ?_ (all_cons ?_ (all_cons ?_ (all_cons ?_ (all_cons ?_ (all_cons ?_ (all_cons ?_ (all_cons ?_ (all_cons ?_ (all_cons ?_ (all_cons ?_ (all_cons ?_ (all_cons ?_ (all_nil))))))))))))))))
    · exact coreG_move _ _ _ _ _ _ _ (by rfl) (by rfl) (wants_none) (known_old 16 _ (of_decide_eq_true (by rfl)) (by rfl))
    · exact coreG_bin _ _ _ _ _ _ _ _ _ _ _ _ _ (by rfl) (by rfl) (wants_none) (known_core 0 109 _ _ (of_decide_eq_true (by rfl)) (by rfl) (by rfl) (by rfl)) (known_const _) ((fun ρ w hx hy => by simp only [execOp, hx, hy]; simp [go_sem]))
    · exact coreG_move _ _ _ _ _ _ _ (by rfl) (by rfl) (wants_none) (known_core 1 110 _ _ (of_decide_eq_true (by rfl)) (by rfl) (by rfl) (by rfl))
    · exact coreG_move _ _ _ _ _ _ _ (by rfl) (by rfl) (wants_core 2 111 2 _ _ _ (by rfl) (by rfl) (by rfl) (known_core 2 111 _ _ (of_decide_eq_true (by rfl)) (by rfl) (by rfl) (by rfl)) _ (by rfl)) (known_old 18 _ (of_decide_eq_true (by rfl)) (by rfl))
    · exact coreG_bin _ _ _ _ _ _ _ _ _ _ _ _ _ (by rfl) (by rfl) (wants_core 2 111 2 _ _ _ (by rfl) (by rfl) (by rfl) (known_core 2 111 _ _ (of_decide_eq_true (by rfl)) (by rfl) (by rfl) (by rfl)) _ (by rfl)) (known_core 3 112 _ _ (of_decide_eq_true (by rfl)) (by rfl) (by rfl) (by rfl)) (known_const _) ((fun ρ w hx hy => by simp only [execOp, hx, hy]; simp [go_sem]))
    · exact coreG_pick _ _ _ _ _ _ _ _ _ _ _ _ (by rfl) (by rfl) (wants_none) (known_core 2 111 _ _ (of_decide_eq_true (by rfl)) (by rfl) (by rfl) (by rfl)) (known_const _) (known_core 4 113 _ _ (of_decide_eq_true (by rfl)) (by rfl) (by rfl) (by rfl)) (by rfl)
    · exact coreG_move _ _ _ _ _ _ _ (by rfl) (by rfl) (wants_none) (known_core 5 114 _ _ (of_decide_eq_true (by rfl)) (by rfl) (by rfl) (by rfl))
    · exact coreG_loadP _ _ _ _ _ _ gon _ _ _ _ (by rfl) (by rfl) (wants_core 6 115 6 _ _ _ (by rfl) (by rfl) (by rfl) (known_core 6 115 _ _ (of_decide_eq_true (by rfl)) (by rfl) (by rfl) (by rfl)) _ (by rfl)) (known_old 15 _ (of_decide_eq_true (by rfl)) (by rfl)) (fun _ hs => hs.1)
    · exact core_pureAs _ (by rfl)
    · exact coreG_bin _ _ _ _ _ _ _ _ _ _ _ _ _ (by rfl) (by rfl) (wants_core 6 115 6 _ _ _ (by rfl) (by rfl) (by rfl) (known_core 6 115 _ _ (of_decide_eq_true (by rfl)) (by rfl) (by rfl) (by rfl)) _ (by rfl)) (known_core 7 116 _ _ (of_decide_eq_true (by rfl)) (by rfl) (by rfl) (by rfl)) (known_core 8 117 _ _ (of_decide_eq_true (by rfl)) (by rfl) (by rfl) (by rfl)) (neq_run true _ _ _ _ _ _ _ _ _ _ _ _ _ _ _ (eqY Z))
    · exact coreG_pick _ _ _ _ _ _ _ _ _ _ _ _ (by rfl) (by rfl) (wants_none) (known_core 6 115 _ _ (of_decide_eq_true (by rfl)) (by rfl) (by rfl) (by rfl)) (known_const _) (known_core 9 118 _ _ (of_decide_eq_true (by rfl)) (by rfl) (by rfl) (by rfl)) (by rfl)
    · exact coreG_move _ _ _ _ _ _ _ (by rfl) (by rfl) (wants_none) (known_core 10 119 _ _ (of_decide_eq_true (by rfl)) (by rfl) (by rfl) (by rfl))
    · exact coreG_loadP _ _ _ _ _ _ gbk _ _ _ _ (by rfl) (by rfl) (wants_core 11 120 11 _ _ _ (by rfl) (by rfl) (by rfl) (known_core 11 120 _ _ (of_decide_eq_true (by rfl)) (by rfl) (by rfl) (by rfl)) _ (by rfl)) (known_old 17 _ (of_decide_eq_true (by rfl)) (by rfl)) (fun _ hs => hs.2.1)
    · exact coreG_loadP _ _ _ _ _ _ ga _ _ _ _ (by rfl) (by rfl) (wants_core 11 120 11 _ _ _ (by rfl) (by rfl) (by rfl) (known_core 11 120 _ _ (of_decide_eq_true (by rfl)) (by rfl) (by rfl) (by rfl)) _ (by rfl)) (known_old 5 _ (of_decide_eq_true (by rfl)) (by rfl)) (fun _ hs => hs.2.2)
    · exact coreG_bin _ _ _ _ _ _ _ _ _ _ _ _ _ (by rfl) (by rfl) (wants_core 11 120 11 _ _ _ (by rfl) (by rfl) (by rfl) (known_core 11 120 _ _ (of_decide_eq_true (by rfl)) (by rfl) (by rfl) (by rfl)) _ (by rfl)) (known_core 12 121 _ _ (of_decide_eq_true (by rfl)) (by rfl) (by rfl) (by rfl)) (known_core 13 122 _ _ (of_decide_eq_true (by rfl)) (by rfl) (by rfl) (by rfl)) (neq_run true _ _ _ _ _ _ _ _ _ _ _ _ _ _ _ (eqY a))
    · exact coreG_pick _ _ _ _ _ _ _ _ _ _ _ _ (by rfl) (by rfl) (wants_none) (known_core 11 120 _ _ (of_decide_eq_true (by rfl)) (by rfl) (by rfl) (by rfl)) (known_const _) (known_core 14 123 _ _ (of_decide_eq_true (by rfl)) (by rfl) (by rfl) (by rfl)) (by rfl)
  · refine all_cons ?_ (all_cons ?_ (all_cons ?_ (all_cons ?_ (all_cons ?_ (all_cons ?_ (all_cons ?_ (all_cons ?_ (all_cons ?_ (all_cons ?_ (all_cons ?_ (all_cons ?_ (all_cons ?_ (all_cons ?_ (all_cons ?_ (all_cons ?_ (all_nil))))))))))))))))
    · exact core_stepAs _ (by rfl)
    · exact core_stepAs _ (by rfl)
    · exact core_stepAs _ (by rfl)
    · exact core_stepAs _ (by rfl)
    · exact core_stepAs _ (by rfl)
    · exact core_stepAs _ (by rfl)
    · exact core_stepAs _ (by rfl)
    · exact core_stepAs _ (by rfl)
    · exact fun _ => coreG_call _ 28 _ _ [.const (.int .u64 1)] _ _ _ _ _ _ _ (by rfl) Try.func28 (by kernel_rfl) (by rfl) (by rfl) (wants_core 6 115 6 _ _ _ (by rfl) (by rfl) (by rfl) (known_core 6 115 _ _ (of_decide_eq_true (by rfl)) (by rfl) (by rfl) (by rfl)) _ (by rfl)) (.cons (known_const _) .nil) (HO.out)
    · exact core_stepAs _ (by rfl)
    · exact core_stepAs _ (by rfl)
    · exact core_stepAs _ (by rfl)
    · exact core_stepAs _ (by rfl)
    · exact core_stepAs _ (by rfl)
    · exact core_stepAs _ (by rfl)
    · exact core_stepAs _ (by rfl)
  intro vs y20 hc
  obtain ⟨vv0, vv1, vv2, vv3, vv4, vv5, vv6, vv7, vv8, vv9, vv10, vv11, vv12, vv13, vv14, vv15, rfl⟩ := len16 vs hc.lv
  have qq0 : vv0 = .int .i64 0 := by obtain ⟨xx, hx, hy⟩ := hc.ok 0 _ rfl rfl; exact (Option.some.inj (show some vv0 = some xx from hx)).trans hy
  have qq1 : vv1 = .bool false := by obtain ⟨xx, hx, hy⟩ := hc.ok 1 _ rfl rfl; exact (Option.some.inj (show some vv1 = some xx from hx)).trans hy
  have qq2 : vv2 = .bool false := by obtain ⟨xx, hx, hy⟩ := hc.ok 2 _ rfl rfl; exact (Option.some.inj (show some vv2 = some xx from hx)).trans hy
  have qq3 : vv3 = .int .i64 0 := by obtain ⟨xx, hx, hy⟩ := hc.ok 3 _ rfl rfl; exact (Option.some.inj (show some vv3 = some xx from hx)).trans hy
  have qq4 : vv4 = .bool false := by obtain ⟨xx, hx, hy⟩ := hc.ok 4 _ rfl rfl; exact (Option.some.inj (show some vv4 = some xx from hx)).trans hy
  have qq5 : vv5 = .bool false := by obtain ⟨xx, hx, hy⟩ := hc.ok 5 _ rfl rfl; exact (Option.some.inj (show some vv5 = some xx from hx)).trans hy
  have qq6 : vv6 = .bool false := by obtain ⟨xx, hx, hy⟩ := hc.ok 6 _ rfl rfl; exact (Option.some.inj (show some vv6 = some xx from hx)).trans hy
  have qq7 : vv7 = .agg #[.int .u64 (wd Z 0 : Nat), .int .u64 (wd Z 1 : Nat), .int .u64 (wd Z 2 : Nat), .int .u64 (wd Z 3 : Nat)] := by obtain ⟨xx, hx, hy⟩ := hc.ok 7 _ rfl rfl; exact (Option.some.inj (show some vv7 = some xx from hx)).trans hy
  have qq8 : vv8 = .agg #[.int .u64 (wd Z 0 : Nat), .int .u64 (wd Z 1 : Nat), .int .u64 (wd Z 2 : Nat), .int .u64 (wd Z 3 : Nat)] := by obtain ⟨xx, hx, hy⟩ := hc.ok 8 _ rfl rfl; exact (Option.some.inj (show some vv8 = some xx from hx)).trans hy
  have qq9 : vv9 = .bool false := by obtain ⟨xx, hx, hy⟩ := hc.ok 9 _ rfl rfl; exact (Option.some.inj (show some vv9 = some xx from hx)).trans hy
  have qq10 : vv10 = .bool false := by obtain ⟨xx, hx, hy⟩ := hc.ok 10 _ rfl rfl; exact (Option.some.inj (show some vv10 = some xx from hx)).trans hy
  have qq11 : vv11 = .bool false := by obtain ⟨xx, hx, hy⟩ := hc.ok 11 _ rfl rfl; exact (Option.some.inj (show some vv11 = some xx from hx)).trans hy
  have qq12 : vv12 = .agg #[.int .u64 (wd a 0 : Nat), .int .u64 (wd a 1 : Nat), .int .u64 (wd a 2 : Nat), .int .u64 (wd a 3 : Nat)] := by obtain ⟨xx, hx, hy⟩ := hc.ok 12 _ rfl rfl; exact (Option.some.inj (show some vv12 = some xx from hx)).trans hy
  have qq13 : vv13 = .agg #[.int .u64 (wd a 0 : Nat), .int .u64 (wd a 1 : Nat), .int .u64 (wd a 2 : Nat), .int .u64 (wd a 3 : Nat)] := by obtain ⟨xx, hx, hy⟩ := hc.ok 13 _ rfl rfl; exact (Option.some.inj (show some vv13 = some xx from hx)).trans hy
  have qq14 : vv14 = .bool false := by obtain ⟨xx, hx, hy⟩ := hc.ok 14 _ rfl rfl; exact (Option.some.inj (show some vv14 = some xx from hx)).trans hy
  have qq15 : vv15 = .bool false := by obtain ⟨xx, hx, hy⟩ := hc.ok 15 _ rfl rfl; exact (Option.some.inj (show some vv15 = some xx from hx)).trans hy
  have BZ := hc.bel
  clear hc
  have Nm := Fm.out.on BZ
  have Na := Fa.out.on BZ
  have Nx := Fx.out.on BZ
  have Ny := Fy.out.on BZ
  have Nz := Fz.out.on BZ
  have Non := Fon.out.on BZ
  have Nbk := Fbk.out.on BZ
  have NB := bel_tr BW.out BZ
  clear BW BZ Fm Fa Fx Fy Fz Fon Fbk
  subst qq0 qq1 qq2 qq3 qq4 qq5 qq6 qq7 qq8 qq9 qq10 qq11 qq12 qq13 qq14 qq15
  simp only [List.map_cons, List.map_nil, over, Act.put, List.setIfInBounds_toArray, List.set_cons_zero, List.set_cons_succ]
  refine wpAnyH_done (by kernel_rfl) ?_ _
  refine NoPanic.normal ?_
  have Fm := Lib.hid Nm
  have Fa := Lib.hid Na
  have Fx := Lib.hid Nx
  have Fy := Lib.hid Ny
  have Fz := Lib.hid Nz
  have Fon := Lib.hid Non
  have Fbk := Lib.hid Nbk
  have BW := Lib.hid NB
  clear NB Nm Na Nx Ny Nz Non Nbk
  have Lx := Fx.out.lt
  have cx0 : y20.cell? ⟨gx, 0, none⟩ = some (.int .u64 (wd x 0 : Nat)) := Fx.out.cell 0
  have cx1 : y20.cell? ⟨gx, 1, none⟩ = some (.int .u64 (wd x 1 : Nat)) := Fx.out.cell 1
  have cx2 : y20.cell? ⟨gx, 2, none⟩ = some (.int .u64 (wd x 2 : Nat)) := Fx.out.cell 2
  have cx3 : y20.cell? ⟨gx, 3, none⟩ = some (.int .u64 (wd x 3 : Nat)) := Fx.out.cell 3
  have Ly := Fy.out.lt
  have cy0 : y20.cell? ⟨gy, 0, none⟩ = some (.int .u64 (wd y 0 : Nat)) := Fy.out.cell 0
  have cy1 : y20.cell? ⟨gy, 1, none⟩ = some (.int .u64 (wd y 1 : Nat)) := Fy.out.cell 1
  have cy2 : y20.cell? ⟨gy, 2, none⟩ = some (.int .u64 (wd y 2 : Nat)) := Fy.out.cell 2
  have cy3 : y20.cell? ⟨gy, 3, none⟩ = some (.int .u64 (wd y 3 : Nat)) := Fy.out.cell 3
  have Lm := Fm.out.lt
  have cm0 : y20.cell? ⟨gm, 0, none⟩ = some (.int .u64 (wd M 0 : Nat)) := Fm.out.cell 0
  have cm1 : y20.cell? ⟨gm, 1, none⟩ = some (.int .u64 (wd M 1 : Nat)) := Fm.out.cell 1
  have cm2 : y20.cell? ⟨gm, 2, none⟩ = some (.int .u64 (wd M 2 : Nat)) := Fm.out.cell 2
  have cm3 : y20.cell? ⟨gm, 3, none⟩ = some (.int .u64 (wd M 3 : Nat)) := Fm.out.cell 3
  go_wp2_with fail
  clear Lx cx0 cx1 cx2 cx3 Ly cy0 cy1 cy2 cy3 Lm cm0 cm1 cm2 cm3
  clear Fon
  clear Fbk
  clear Fa
  refine (HM3.out _).mono ?_
  rintro e v21 ⟨rfl, z21⟩
  have Nm := Lib.hid (Fm.out.on z21)
  have Nx := Lib.hid (Fx.out.on z21)
  have Ny := Lib.hid (Fy.out.on z21)
  have Nz := Lib.hid (Fz.out.on z21)
  have NB := Lib.hid (bel_tr BW.out z21)
  clear BW z21 Fm Fx Fy Fz
  have Fm := Nm
  have Fx := Nx
  have Fy := Ny
  have Fz := Nz
  have BW := NB
  clear NB Nm Nx Ny Nz
  go_wp2_with fail
  have Nxy : At (v21.alloc (.cells #[.int .u64 (wd z 0 : Nat), .int .u64 (wd z 1 : Nat), .int .u64 (wd z 2 : Nat), .int .u64 (wd z 3 : Nat)] 24)) (v21.heap.size) 24 #[.int .u64 (wd z 0 : Nat), .int .u64 (wd z 1 : Nat), .int .u64 (wd z 2 : Nat), .int .u64 (wd z 3 : Nat)] := At.at_ _ _ _ _ (by simp)
  have Nm : At (v21.alloc (.cells #[.int .u64 (wd z 0 : Nat), .int .u64 (wd z 1 : Nat), .int .u64 (wd z 2 : Nat), .int .u64 (wd z 3 : Nat)] 24)) gm 24 #[.int .u64 (wd M 0 : Nat), .int .u64 (wd M 1 : Nat), .int .u64 (wd M 2 : Nat), .int .u64 (wd M 3 : Nat)] := Fm.out.alloc _
  have Nx : At (v21.alloc (.cells #[.int .u64 (wd z 0 : Nat), .int .u64 (wd z 1 : Nat), .int .u64 (wd z 2 : Nat), .int .u64 (wd z 3 : Nat)] 24)) gx 24 #[.int .u64 (wd x 0 : Nat), .int .u64 (wd x 1 : Nat), .int .u64 (wd x 2 : Nat), .int .u64 (wd x 3 : Nat)] := Fx.out.alloc _
  have Ny : At (v21.alloc (.cells #[.int .u64 (wd z 0 : Nat), .int .u64 (wd z 1 : Nat), .int .u64 (wd z 2 : Nat), .int .u64 (wd z 3 : Nat)] 24)) gy 24 #[.int .u64 (wd y 0 : Nat), .int .u64 (wd y 1 : Nat), .int .u64 (wd y 2 : Nat), .int .u64 (wd y 3 : Nat)] := Fy.out.alloc _
  have Nz : At (v21.alloc (.cells #[.int .u64 (wd z 0 : Nat), .int .u64 (wd z 1 : Nat), .int .u64 (wd z 2 : Nat), .int .u64 (wd z 3 : Nat)] 24)) gz 24 #[.int .u64 (wd z 0 : Nat), .int .u64 (wd z 1 : Nat), .int .u64 (wd z 2 : Nat), .int .u64 (wd z 3 : Nat)] := Fz.out.alloc _
  have NB : Below w.heap.size w (v21.alloc (.cells #[.int .u64 (wd z 0 : Nat), .int .u64 (wd z 1 : Nat), .int .u64 (wd z 2 : Nat), .int .u64 (wd z 3 : Nat)] 24)) := gr_alloc BW.out _
  clear BW Fm Fx Fy Fz
  generalize (v21.alloc (.cells #[.int .u64 (wd z 0 : Nat), .int .u64 (wd z 1 : Nat), .int .u64 (wd z 2 : Nat), .int .u64 (wd z 3 : Nat)] 24)) = W22 at *
  generalize v21.heap.size = gxy at *
  have Fm := Lib.hid Nm
  have Fx := Lib.hid Nx
  have Fy := Lib.hid Ny
  have Fz := Lib.hid Nz
  have Fxy := Lib.hid Nxy
  have BW := Lib.hid NB
  clear NB Nm Nx Ny Nz Nxy
  clear Fx
  clear Fy
  clear Fm
  refine (alive4_any _).mono ?_
  rintro e v23 ⟨rfl, z23⟩
  have Nz := Lib.hid (Fz.out.on z23)
  have Nxy := Lib.hid (Fxy.out.on z23)
  have NB := Lib.hid (bel_tr BW.out z23)
  clear BW z23 Fz Fxy
  have Fz := Nz
  have Fxy := Nxy
  have BW := NB
  clear NB Nz Nxy
  have Lxy := Fxy.out.lt
  have cxy0 : v23.cell? ⟨gxy, 0, none⟩ = some (.int .u64 (wd z 0 : Nat)) := Fxy.out.cell 0
  have cxy1 : v23.cell? ⟨gxy, 1, none⟩ = some (.int .u64 (wd z 1 : Nat)) := Fxy.out.cell 1
  have cxy2 : v23.cell? ⟨gxy, 2, none⟩ = some (.int .u64 (wd z 2 : Nat)) := Fxy.out.cell 2
  have cxy3 : v23.cell? ⟨gxy, 3, none⟩ = some (.int .u64 (wd z 3 : Nat)) := Fxy.out.cell 3
  have Lz := Fz.out.lt
  have cz0 : v23.cell? ⟨gz, 0, none⟩ = some (.int .u64 (wd z 0 : Nat)) := Fz.out.cell 0
  have cz1 : v23.cell? ⟨gz, 1, none⟩ = some (.int .u64 (wd z 1 : Nat)) := Fz.out.cell 1
  have cz2 : v23.cell? ⟨gz, 2, none⟩ = some (.int .u64 (wd z 2 : Nat)) := Fz.out.cell 2
  have cz3 : v23.cell? ⟨gz, 3, none⟩ = some (.int .u64 (wd z 3 : Nat)) := Fz.out.cell 3
  have qqz := eqY z
  go_wp2_with fail
  go_ret
  exact ⟨rfl, BW.out⟩

theorem inverselaw_walk (X Y M : Nat) (hX : X < 2 ^ 256) (hY : Y < 2 ^ 256) (hM : M < 2 ^ 256) (w : World) : Calls Try.prog 8 #[.agg #[.int .u64 (wd X 0 : Nat), .int .u64 (wd X 1 : Nat), .int .u64 (wd X 2 : Nat), .int .u64 (wd X 3 : Nat), .int .u64 (wd Y 0 : Nat), .int .u64 (wd Y 1 : Nat), .int .u64 (wd Y 2 : Nat), .int .u64 (wd Y 3 : Nat)], num M] w fun e w' => e = .returned (.bool true) ∧ Below w.heap.size w w' := by
  by_cases h1 : 1 < M
  · have h0 : M ≠ 0 := by omega
    have lt : ∀ x, x % M < M := fun x => Nat.mod_lt _ (by omega)
    obtain ⟨a, ea⟩ : ∃ a, a = X % M := ⟨_, rfl⟩
    obtain ⟨b, eb⟩ : ∃ b, b = Y % M := ⟨_, rfl⟩
    have ha : a < M := by rw [ea]; exact lt _
    have hb : b < M := by rw [eb]; exact lt _
    have B1 := belowM_any X M hX hM h0
    have B2 := belowM_any Y M hY hM h0
    rw [← ea] at B1
    rw [← eb] at B2
    have CM := common_any a M (by omega) hM
    by_cases hga : Nat.gcd a M = 1
    · obtain ⟨x, hx, hax⟩ := inv_there a M h1 hga
      rw [hga] at CM
      have M2 := mmul_yes a x M hM h1 ha hx
      rw [hax] at M2
      have I4 := minv_yes x M a hM h1 hx ha (by rw [Nat.mul_comm]; exact hax)
      by_cases hgb : Nat.gcd b M = 1
      · obtain ⟨y, hy, hby⟩ := inv_there b M h1 hgb
        have hz : a * b % M * (x * y % M) % M = 1 := by
          rw [← Nat.mul_mod, show a * b * (x * y) = a * x * (b * y) by ac_rfl, Nat.mul_mod, hax, hby, Nat.mod_eq_of_lt h1]
        exact inv_both X Y M 1 0 a b x y _ 0 _ _ (cmpN_pos h1) (fun w => ofM_any 1 (by decide) w) (fun w => cmp_any M 1 hM (by decide) w) B1 B2 (minv_yes a M x hM h1 ha hx hax) (minv_yes b M y hM h1 hb hy hby) CM (mmul_yes a b M hM h1 ha hb)
          (minv_yes _ M _ hM h1 (lt _) (lt _) hz) M2 I4 (mmul_yes x y M hM h1 hx hy) w
      · have hgab : Nat.gcd (a * b % M) M ≠ 1 := fun h => by
          obtain ⟨V, hV, hv⟩ := inv_there _ M h1 h
          refine hgb (inv_gcd b M (a * V) h1 ?_)
          rw [Nat.mod_mul_mod] at hv
          rw [← hv]; congr 1; ac_rfl
        exact inv_half X Y M 1 0 a b x 0 0 0 _ _ (cmpN_pos h1) (fun w => ofM_any 1 (by decide) w) (fun w => cmp_any M 1 hM (by decide) w) B1 B2 (minv_yes a M x hM h1 ha hx hax) (minv_none b M hM h1 hb hgb) CM (mmul_yes a b M hM h1 ha hb)
          (minv_none _ M hM h1 (lt _) hgab) M2 I4 w
    · have hgab : Nat.gcd (a * b % M) M ≠ 1 := fun h => by
        obtain ⟨V, hV, hv⟩ := inv_there _ M h1 h
        refine hga (inv_gcd a M (b * V) h1 ?_)
        rw [Nat.mod_mul_mod] at hv
        rw [← hv]; congr 1; ac_rfl
      have hg256 : Nat.gcd a M < 2 ^ 256 := Nat.lt_of_le_of_lt (Nat.gcd_le_right _ (by omega)) hM
      obtain ⟨y, ef, CI⟩ : ∃ (y : Nat) (ef : Int), ∀ w, Calls Try.prog 21 #[num b, num M] w fun e w' => e = .returned (.tuple #[num y, .int .i64 ef]) ∧ Below w.heap.size w w' := by
        by_cases hgb : Nat.gcd b M = 1
        · obtain ⟨y, hy, hby⟩ := inv_there b M h1 hgb
          exact ⟨y, 0, minv_yes b M y hM h1 hb hy hby⟩
        · exact ⟨0, 7, minv_none b M hM h1 hb hgb⟩
      exact inv_no X Y M 1 0 a b 0 y 0 _ _ _ ef (cmpN_pos h1) (fun w => ofM_any 1 (by decide) w) (fun w => cmp_any M 1 hM (by decide) w) B1 B2 (minv_none a M hM h1 ha hga) CI CM (mmul_yes a b M hM h1 ha hb) (minv_none _ M hM h1 (lt _) hgab)
        (fun w => ofM_any 0 (by decide) w) (fun w => by rw [eqN _ 1 hg256 (by decide)]; simp [hga]) w
  · exact inv_none X Y M 1 _ (cmpN_le (by omega)) (fun w => ofM_any 1 (by decide) w) (fun w => cmp_any M 1 hM (by decide) w) w
end Go.Proofs.Ytmhmdbjjmmmgkaa
