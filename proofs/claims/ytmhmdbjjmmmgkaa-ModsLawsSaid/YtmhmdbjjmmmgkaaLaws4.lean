/-
  The walk of ModsLaws: it answers true, and nothing that was there is changed.
-/
import Derived.Test.YtmhmdbjjmmmgkaaAlive4
namespace Go.Proofs.Ytmhmdbjjmmmgkaa
open Go.RowKit
set_option linter.unusedSimpArgs false
set_option linter.unusedVariables false
attribute [local go_sem ↓] Go.wp_at_zero Go.wp_at_succ

set_option maxRecDepth 100000 in
set_option maxHeartbeats 8000000 in
theorem laws_none (X Y V M Z : Nat) (k : Int)
    (hk : k ≤ 0)
    (O : ∀ w, Calls Try.prog 28 #[.int .u64 1] w fun e w' => e = .returned (num Z) ∧ Below w.heap.size w w')
    (K : ∀ w, Calls Try.prog 27 #[num M, num Z] w fun e w' => e = .returned (.int .i64 k) ∧ Below w.heap.size w w')
    (w : World) : Calls Try.prog 5 #[.agg #[.int .u64 (wd X 0 : Nat), .int .u64 (wd X 1 : Nat), .int .u64 (wd X 2 : Nat), .int .u64 (wd X 3 : Nat), .int .u64 (wd Y 0 : Nat), .int .u64 (wd Y 1 : Nat), .int .u64 (wd Y 2 : Nat), .int .u64 (wd Y 3 : Nat), .int .u64 (wd V 0 : Nat), .int .u64 (wd V 1 : Nat), .int .u64 (wd V 2 : Nat), .int .u64 (wd V 3 : Nat)], num M] w fun e w' => e = .returned (.bool true) ∧ Below w.heap.size w w' := by
  have HO := Lib.hid O
  have HK := Lib.hid K
  clear O K
  go_enter Try.func5, Try.ntmps5
  go_wp2_with fail
  have BW := Lib.hid (Below.refl w.heap.size w)
  have Narr : At ((w.alloc (.cells #[.int .u64 (wd X 0 : Nat), .int .u64 (wd X 1 : Nat), .int .u64 (wd X 2 : Nat), .int .u64 (wd X 3 : Nat), .int .u64 (wd Y 0 : Nat), .int .u64 (wd Y 1 : Nat), .int .u64 (wd Y 2 : Nat), .int .u64 (wd Y 3 : Nat), .int .u64 (wd V 0 : Nat), .int .u64 (wd V 1 : Nat), .int .u64 (wd V 2 : Nat), .int .u64 (wd V 3 : Nat)] 25)).alloc (.cells #[.int .u64 (wd M 0 : Nat), .int .u64 (wd M 1 : Nat), .int .u64 (wd M 2 : Nat), .int .u64 (wd M 3 : Nat)] 24)) (w.heap.size) 25 #[.int .u64 (wd X 0 : Nat), .int .u64 (wd X 1 : Nat), .int .u64 (wd X 2 : Nat), .int .u64 (wd X 3 : Nat), .int .u64 (wd Y 0 : Nat), .int .u64 (wd Y 1 : Nat), .int .u64 (wd Y 2 : Nat), .int .u64 (wd Y 3 : Nat), .int .u64 (wd V 0 : Nat), .int .u64 (wd V 1 : Nat), .int .u64 (wd V 2 : Nat), .int .u64 (wd V 3 : Nat)] := (At.at_ _ _ _ _ (by simp)).alloc _
  have Nm : At ((w.alloc (.cells #[.int .u64 (wd X 0 : Nat), .int .u64 (wd X 1 : Nat), .int .u64 (wd X 2 : Nat), .int .u64 (wd X 3 : Nat), .int .u64 (wd Y 0 : Nat), .int .u64 (wd Y 1 : Nat), .int .u64 (wd Y 2 : Nat), .int .u64 (wd Y 3 : Nat), .int .u64 (wd V 0 : Nat), .int .u64 (wd V 1 : Nat), .int .u64 (wd V 2 : Nat), .int .u64 (wd V 3 : Nat)] 25)).alloc (.cells #[.int .u64 (wd M 0 : Nat), .int .u64 (wd M 1 : Nat), .int .u64 (wd M 2 : Nat), .int .u64 (wd M 3 : Nat)] 24)) (w.heap.size + 1) 24 #[.int .u64 (wd M 0 : Nat), .int .u64 (wd M 1 : Nat), .int .u64 (wd M 2 : Nat), .int .u64 (wd M 3 : Nat)] := At.at_ _ _ _ _ (by simp)
  have NB : Below w.heap.size w ((w.alloc (.cells #[.int .u64 (wd X 0 : Nat), .int .u64 (wd X 1 : Nat), .int .u64 (wd X 2 : Nat), .int .u64 (wd X 3 : Nat), .int .u64 (wd Y 0 : Nat), .int .u64 (wd Y 1 : Nat), .int .u64 (wd Y 2 : Nat), .int .u64 (wd Y 3 : Nat), .int .u64 (wd V 0 : Nat), .int .u64 (wd V 1 : Nat), .int .u64 (wd V 2 : Nat), .int .u64 (wd V 3 : Nat)] 25)).alloc (.cells #[.int .u64 (wd M 0 : Nat), .int .u64 (wd M 1 : Nat), .int .u64 (wd M 2 : Nat), .int .u64 (wd M 3 : Nat)] 24)) := gr_alloc (gr_alloc BW.out _) _
  clear BW 
  generalize ((w.alloc (.cells #[.int .u64 (wd X 0 : Nat), .int .u64 (wd X 1 : Nat), .int .u64 (wd X 2 : Nat), .int .u64 (wd X 3 : Nat), .int .u64 (wd Y 0 : Nat), .int .u64 (wd Y 1 : Nat), .int .u64 (wd Y 2 : Nat), .int .u64 (wd Y 3 : Nat), .int .u64 (wd V 0 : Nat), .int .u64 (wd V 1 : Nat), .int .u64 (wd V 2 : Nat), .int .u64 (wd V 3 : Nat)] 25)).alloc (.cells #[.int .u64 (wd M 0 : Nat), .int .u64 (wd M 1 : Nat), .int .u64 (wd M 2 : Nat), .int .u64 (wd M 3 : Nat)] 24)) = W1 at *
  generalize w.heap.size + 1 = gm at *
  obtain ⟨garr, hg0⟩ : ∃ g, g = w.heap.size := ⟨_, rfl⟩
  rw [← hg0] at Narr ⊢
  clear hg0
  have Farr := Lib.hid Narr
  have Fm := Lib.hid Nm
  have BW := Lib.hid NB
  clear NB Narr Nm
  try simp only [List.append_eq, List.cons_append, List.nil_append]
  refine wp_region_noPanic ?_
  refine wp_region_held_drew (S := fun w' => At w' gm 24 #[.int .u64 (wd M 0 : Nat), .int .u64 (wd M 1 : Nat), .int .u64 (wd M 2 : Nat), .int .u64 (wd M 3 : Nat)]) (by kernel_rfl) (Fm.out.drew) (fun _ => ?_)
  refine wpAnyH_cores (fuel := 0) (⟨0, 30, [], Kind.val (.agg #[.int .u64 (wd M 0 : Nat), .int .u64 (wd M 1 : Nat), .int .u64 (wd M 2 : Nat), .int .u64 (wd M 3 : Nat)]), true⟩ :: ⟨1, 31, [0], Kind.val (.agg #[.int .u64 (wd Z 0 : Nat), .int .u64 (wd Z 1 : Nat), .int .u64 (wd Z 2 : Nat), .int .u64 (wd Z 3 : Nat)]), false⟩ :: ⟨2, 32, [0, 1], Kind.val (.int .i64 k), false⟩ :: ⟨3, 33, [2], Kind.val (.bool true), true⟩ :: []) _ _ W1 _ ?_ ?_ ?_ ?_ ?_ ?_ ?_ ?_ ?_ ?_ ?_
  · rfl
  · kernel_rfl
  · exact of_decide_eq_true (by kernel_rfl)
  · exact all_cons ⟨_, by rfl, by rfl⟩ (all_cons ⟨_, by rfl, by rfl⟩ (all_cons ⟨_, by rfl, by rfl⟩ (all_cons ⟨_, by rfl, by rfl⟩ (all_nil))))
  · exact fun _ hb => Fm.out.on hb
  · exact (Below.refl _ _).drew
  · kernel_rfl
  · exact fun _ _ _ _ _ h => h
  · refine all_cons ?_ (all_cons ?_ (all_cons ?_ (all_cons ?_ (all_nil))))
    · exact coreG_loadP _ _ _ _ _ _ gm _ _ _ _ (by rfl) (by rfl) (wants_none) (known_old 3 _ (of_decide_eq_true (by rfl)) (by rfl)) (fun _ hs => hs)
    · exact core_pureAs _ (by rfl)
    · exact core_pureAs _ (by rfl)
    · exact coreG_bin _ _ _ _ _ _ _ _ _ _ _ _ _ (by rfl) (by rfl) (wants_none) (known_core 2 32 _ _ (of_decide_eq_true (by rfl)) (by rfl) (by rfl) (by rfl)) (known_const _) ((fun ρ w hx hy => by simp only [execOp, hx, hy]; simp [go_sem]; exact hk))
  · refine all_cons ?_ (all_cons ?_ (all_cons ?_ (all_cons ?_ (all_nil))))
    · exact core_stepAs _ (by rfl)
    · exact fun _ => coreG_call _ 28 _ _ [.const (.int .u64 1)] _ _ _ _ _ _ _ (by rfl) Try.func28 (by kernel_rfl) (by rfl) (by rfl) (wants_none) (.cons (known_const _) .nil) (HO.out)
    · exact fun _ => coreG_call _ 27 _ _ [.tmp 30, .tmp 31] _ _ _ _ _ _ _ (by rfl) Try.func27 (by kernel_rfl) (by rfl) (by rfl) (wants_none) (.cons (known_core 0 30 _ _ (of_decide_eq_true (by rfl)) (by rfl) (by rfl) (by rfl)) (.cons (known_core 1 31 _ _ (of_decide_eq_true (by rfl)) (by rfl) (by rfl) (by rfl)) .nil)) (HK.out)
    · exact core_stepAs _ (by rfl)
  intro vs y2 hc
  obtain ⟨vv0, vv1, vv2, vv3, rfl⟩ := len4 vs hc.lv
  have qq0 : vv0 = .agg #[.int .u64 (wd M 0 : Nat), .int .u64 (wd M 1 : Nat), .int .u64 (wd M 2 : Nat), .int .u64 (wd M 3 : Nat)] := by obtain ⟨xx, hx, hy⟩ := hc.ok 0 _ rfl rfl; exact (Option.some.inj (show some vv0 = some xx from hx)).trans hy
  have qq1 : vv1 = .agg #[.int .u64 (wd Z 0 : Nat), .int .u64 (wd Z 1 : Nat), .int .u64 (wd Z 2 : Nat), .int .u64 (wd Z 3 : Nat)] := by obtain ⟨xx, hx, hy⟩ := hc.ok 1 _ rfl rfl; exact (Option.some.inj (show some vv1 = some xx from hx)).trans hy
  have qq2 : vv2 = .int .i64 k := by obtain ⟨xx, hx, hy⟩ := hc.ok 2 _ rfl rfl; exact (Option.some.inj (show some vv2 = some xx from hx)).trans hy
  have qq3 : vv3 = .bool true := by obtain ⟨xx, hx, hy⟩ := hc.ok 3 _ rfl rfl; exact (Option.some.inj (show some vv3 = some xx from hx)).trans hy
  have BZ := hc.bel
  clear hc
  have Narr := Farr.out.on BZ
  have Nm := Fm.out.on BZ
  have NB := bel_tr BW.out BZ
  clear BW BZ Farr Fm
  subst qq0 qq1 qq2 qq3
  simp only [List.map_cons, List.map_nil, over, Act.put, List.setIfInBounds_toArray, List.set_cons_zero, List.set_cons_succ]
  refine wpAnyH_done (by kernel_rfl) ?_ _
  refine NoPanic.normal ?_
  have Farr := Lib.hid Narr
  have Fm := Lib.hid Nm
  have BW := Lib.hid NB
  clear NB Narr Nm
  go_wp2_with fail
  refine (alive4_any _).mono ?_
  rintro e v3 ⟨rfl, z3⟩
  have Narr := Lib.hid (Farr.out.on z3)
  have Nm := Lib.hid (Fm.out.on z3)
  have NB := Lib.hid (bel_tr BW.out z3)
  clear BW z3 Farr Fm
  have Farr := Narr
  have Fm := Nm
  have BW := NB
  clear NB Narr Nm
  go_wp2_with fail
  go_ret
  exact ⟨rfl, BW.out⟩

set_option maxRecDepth 100000 in
set_option maxHeartbeats 8000000 in
theorem laws_some (X Y V M Z a b c s1 s2 s3 p1 p2 p3 p4 p5 : Nat) (k : Int)
    (hk : 0 < k)
    (O : ∀ w, Calls Try.prog 28 #[.int .u64 1] w fun e w' => e = .returned (num Z) ∧ Below w.heap.size w w')
    (K : ∀ w, Calls Try.prog 27 #[num M, num Z] w fun e w' => e = .returned (.int .i64 k) ∧ Below w.heap.size w w')
    (B1 : ∀ w, Calls Try.prog 30 #[num X, num M] w fun e w' => e = .returned (num a) ∧ Below w.heap.size w w')
    (B2 : ∀ w, Calls Try.prog 30 #[num Y, num M] w fun e w' => e = .returned (num b) ∧ Below w.heap.size w w')
    (B3 : ∀ w, Calls Try.prog 30 #[num V, num M] w fun e w' => e = .returned (num c) ∧ Below w.heap.size w w')
    (S1 : ∀ w, Calls Try.prog 17 #[num a, num b, num M] w fun e w' => e = .returned (.tuple #[num s1, .int .i64 0]) ∧ Below w.heap.size w w')
    (S2 : ∀ w, Calls Try.prog 17 #[num b, num a, num M] w fun e w' => e = .returned (.tuple #[num s1, .int .i64 0]) ∧ Below w.heap.size w w')
    (S3 : ∀ w, Calls Try.prog 17 #[num b, num c, num M] w fun e w' => e = .returned (.tuple #[num s2, .int .i64 0]) ∧ Below w.heap.size w w')
    (S4 : ∀ w, Calls Try.prog 17 #[num s1, num c, num M] w fun e w' => e = .returned (.tuple #[num s3, .int .i64 0]) ∧ Below w.heap.size w w')
    (S5 : ∀ w, Calls Try.prog 17 #[num a, num s2, num M] w fun e w' => e = .returned (.tuple #[num s3, .int .i64 0]) ∧ Below w.heap.size w w')
    (S6 : ∀ w, Calls Try.prog 18 #[num s1, num b, num M] w fun e w' => e = .returned (.tuple #[num a, .int .i64 0]) ∧ Below w.heap.size w w')
    (P1 : ∀ w, Calls Try.prog 19 #[num a, num b, num M] w fun e w' => e = .returned (.tuple #[num p1, .int .i64 0]) ∧ Below w.heap.size w w')
    (P2 : ∀ w, Calls Try.prog 19 #[num b, num a, num M] w fun e w' => e = .returned (.tuple #[num p1, .int .i64 0]) ∧ Below w.heap.size w w')
    (P3 : ∀ w, Calls Try.prog 19 #[num a, num c, num M] w fun e w' => e = .returned (.tuple #[num p2, .int .i64 0]) ∧ Below w.heap.size w w')
    (P4 : ∀ w, Calls Try.prog 19 #[num a, num s2, num M] w fun e w' => e = .returned (.tuple #[num p3, .int .i64 0]) ∧ Below w.heap.size w w')
    (P5 : ∀ w, Calls Try.prog 17 #[num p1, num p2, num M] w fun e w' => e = .returned (.tuple #[num p3, .int .i64 0]) ∧ Below w.heap.size w w')
    (P6 : ∀ w, Calls Try.prog 19 #[num p1, num c, num M] w fun e w' => e = .returned (.tuple #[num p4, .int .i64 0]) ∧ Below w.heap.size w w')
    (P7 : ∀ w, Calls Try.prog 19 #[num b, num c, num M] w fun e w' => e = .returned (.tuple #[num p5, .int .i64 0]) ∧ Below w.heap.size w w')
    (P8 : ∀ w, Calls Try.prog 19 #[num a, num p5, num M] w fun e w' => e = .returned (.tuple #[num p4, .int .i64 0]) ∧ Below w.heap.size w w')
    (w : World) : Calls Try.prog 5 #[.agg #[.int .u64 (wd X 0 : Nat), .int .u64 (wd X 1 : Nat), .int .u64 (wd X 2 : Nat), .int .u64 (wd X 3 : Nat), .int .u64 (wd Y 0 : Nat), .int .u64 (wd Y 1 : Nat), .int .u64 (wd Y 2 : Nat), .int .u64 (wd Y 3 : Nat), .int .u64 (wd V 0 : Nat), .int .u64 (wd V 1 : Nat), .int .u64 (wd V 2 : Nat), .int .u64 (wd V 3 : Nat)], num M] w fun e w' => e = .returned (.bool true) ∧ Below w.heap.size w w' := by
  have HO := Lib.hid O
  have HK := Lib.hid K
  have HB1 := Lib.hid B1
  have HB2 := Lib.hid B2
  have HB3 := Lib.hid B3
  have HS1 := Lib.hid S1
  have HS2 := Lib.hid S2
  have HS3 := Lib.hid S3
  have HS4 := Lib.hid S4
  have HS5 := Lib.hid S5
  have HS6 := Lib.hid S6
  have HP1 := Lib.hid P1
  have HP2 := Lib.hid P2
  have HP3 := Lib.hid P3
  have HP4 := Lib.hid P4
  have HP5 := Lib.hid P5
  have HP6 := Lib.hid P6
  have HP7 := Lib.hid P7
  have HP8 := Lib.hid P8
  clear O K B1 B2 B3 S1 S2 S3 S4 S5 S6 P1 P2 P3 P4 P5 P6 P7 P8
  go_enter Try.func5, Try.ntmps5
  go_wp2_with fail
  have BW := Lib.hid (Below.refl w.heap.size w)
  have Narr : At ((w.alloc (.cells #[.int .u64 (wd X 0 : Nat), .int .u64 (wd X 1 : Nat), .int .u64 (wd X 2 : Nat), .int .u64 (wd X 3 : Nat), .int .u64 (wd Y 0 : Nat), .int .u64 (wd Y 1 : Nat), .int .u64 (wd Y 2 : Nat), .int .u64 (wd Y 3 : Nat), .int .u64 (wd V 0 : Nat), .int .u64 (wd V 1 : Nat), .int .u64 (wd V 2 : Nat), .int .u64 (wd V 3 : Nat)] 25)).alloc (.cells #[.int .u64 (wd M 0 : Nat), .int .u64 (wd M 1 : Nat), .int .u64 (wd M 2 : Nat), .int .u64 (wd M 3 : Nat)] 24)) (w.heap.size) 25 #[.int .u64 (wd X 0 : Nat), .int .u64 (wd X 1 : Nat), .int .u64 (wd X 2 : Nat), .int .u64 (wd X 3 : Nat), .int .u64 (wd Y 0 : Nat), .int .u64 (wd Y 1 : Nat), .int .u64 (wd Y 2 : Nat), .int .u64 (wd Y 3 : Nat), .int .u64 (wd V 0 : Nat), .int .u64 (wd V 1 : Nat), .int .u64 (wd V 2 : Nat), .int .u64 (wd V 3 : Nat)] := (At.at_ _ _ _ _ (by simp)).alloc _
  have Nm : At ((w.alloc (.cells #[.int .u64 (wd X 0 : Nat), .int .u64 (wd X 1 : Nat), .int .u64 (wd X 2 : Nat), .int .u64 (wd X 3 : Nat), .int .u64 (wd Y 0 : Nat), .int .u64 (wd Y 1 : Nat), .int .u64 (wd Y 2 : Nat), .int .u64 (wd Y 3 : Nat), .int .u64 (wd V 0 : Nat), .int .u64 (wd V 1 : Nat), .int .u64 (wd V 2 : Nat), .int .u64 (wd V 3 : Nat)] 25)).alloc (.cells #[.int .u64 (wd M 0 : Nat), .int .u64 (wd M 1 : Nat), .int .u64 (wd M 2 : Nat), .int .u64 (wd M 3 : Nat)] 24)) (w.heap.size + 1) 24 #[.int .u64 (wd M 0 : Nat), .int .u64 (wd M 1 : Nat), .int .u64 (wd M 2 : Nat), .int .u64 (wd M 3 : Nat)] := At.at_ _ _ _ _ (by simp)
  have NB : Below w.heap.size w ((w.alloc (.cells #[.int .u64 (wd X 0 : Nat), .int .u64 (wd X 1 : Nat), .int .u64 (wd X 2 : Nat), .int .u64 (wd X 3 : Nat), .int .u64 (wd Y 0 : Nat), .int .u64 (wd Y 1 : Nat), .int .u64 (wd Y 2 : Nat), .int .u64 (wd Y 3 : Nat), .int .u64 (wd V 0 : Nat), .int .u64 (wd V 1 : Nat), .int .u64 (wd V 2 : Nat), .int .u64 (wd V 3 : Nat)] 25)).alloc (.cells #[.int .u64 (wd M 0 : Nat), .int .u64 (wd M 1 : Nat), .int .u64 (wd M 2 : Nat), .int .u64 (wd M 3 : Nat)] 24)) := gr_alloc (gr_alloc BW.out _) _
  clear BW 
  generalize ((w.alloc (.cells #[.int .u64 (wd X 0 : Nat), .int .u64 (wd X 1 : Nat), .int .u64 (wd X 2 : Nat), .int .u64 (wd X 3 : Nat), .int .u64 (wd Y 0 : Nat), .int .u64 (wd Y 1 : Nat), .int .u64 (wd Y 2 : Nat), .int .u64 (wd Y 3 : Nat), .int .u64 (wd V 0 : Nat), .int .u64 (wd V 1 : Nat), .int .u64 (wd V 2 : Nat), .int .u64 (wd V 3 : Nat)] 25)).alloc (.cells #[.int .u64 (wd M 0 : Nat), .int .u64 (wd M 1 : Nat), .int .u64 (wd M 2 : Nat), .int .u64 (wd M 3 : Nat)] 24)) = W1 at *
  generalize w.heap.size + 1 = gm at *
  obtain ⟨garr, hg0⟩ : ∃ g, g = w.heap.size := ⟨_, rfl⟩
  rw [← hg0] at Narr ⊢
  clear hg0
  have Farr := Lib.hid Narr
  have Fm := Lib.hid Nm
  have BW := Lib.hid NB
  clear NB Narr Nm
  try simp only [List.append_eq, List.cons_append, List.nil_append]
  refine wp_region_noPanic ?_
  refine wp_region_held_drew (S := fun w' => At w' gm 24 #[.int .u64 (wd M 0 : Nat), .int .u64 (wd M 1 : Nat), .int .u64 (wd M 2 : Nat), .int .u64 (wd M 3 : Nat)]) (by kernel_rfl) (Fm.out.drew) (fun _ => ?_)
  refine wpAnyH_cores (fuel := 0) (⟨0, 30, [], Kind.val (.agg #[.int .u64 (wd M 0 : Nat), .int .u64 (wd M 1 : Nat), .int .u64 (wd M 2 : Nat), .int .u64 (wd M 3 : Nat)]), true⟩ :: ⟨1, 31, [0], Kind.val (.agg #[.int .u64 (wd Z 0 : Nat), .int .u64 (wd Z 1 : Nat), .int .u64 (wd Z 2 : Nat), .int .u64 (wd Z 3 : Nat)]), false⟩ :: ⟨2, 32, [0, 1], Kind.val (.int .i64 k), false⟩ :: ⟨3, 33, [2], Kind.val (.bool false), true⟩ :: []) _ _ W1 _ ?_ ?_ ?_ ?_ ?_ ?_ ?_ ?_ ?_ ?_ ?_
  · rfl
  · kernel_rfl
  · exact of_decide_eq_true (by kernel_rfl)
  · exact all_cons ⟨_, by rfl, by rfl⟩ (all_cons ⟨_, by rfl, by rfl⟩ (all_cons ⟨_, by rfl, by rfl⟩ (all_cons ⟨_, by rfl, by rfl⟩ (all_nil))))
  · exact fun _ hb => Fm.out.on hb
  · exact (Below.refl _ _).drew
  · kernel_rfl
  · exact fun _ _ _ _ _ h => h
  · refine all_cons ?_ (all_cons ?_ (all_cons ?_ (all_cons ?_ (all_nil))))
    · exact coreG_loadP _ _ _ _ _ _ gm _ _ _ _ (by rfl) (by rfl) (wants_none) (known_old 3 _ (of_decide_eq_true (by rfl)) (by rfl)) (fun _ hs => hs)
    · exact core_pureAs _ (by rfl)
    · exact core_pureAs _ (by rfl)
    · exact coreG_bin _ _ _ _ _ _ _ _ _ _ _ _ _ (by rfl) (by rfl) (wants_none) (known_core 2 32 _ _ (of_decide_eq_true (by rfl)) (by rfl) (by rfl) (by rfl)) (known_const _) ((fun ρ w hx hy => by simp only [execOp, hx, hy]; simp [go_sem]; exact hk))
  · refine all_cons ?_ (all_cons ?_ (all_cons ?_ (all_cons ?_ (all_nil))))
    · exact core_stepAs _ (by rfl)
    · exact fun _ => coreG_call _ 28 _ _ [.const (.int .u64 1)] _ _ _ _ _ _ _ (by rfl) Try.func28 (by kernel_rfl) (by rfl) (by rfl) (wants_none) (.cons (known_const _) .nil) (HO.out)
    · exact fun _ => coreG_call _ 27 _ _ [.tmp 30, .tmp 31] _ _ _ _ _ _ _ (by rfl) Try.func27 (by kernel_rfl) (by rfl) (by rfl) (wants_none) (.cons (known_core 0 30 _ _ (of_decide_eq_true (by rfl)) (by rfl) (by rfl) (by rfl)) (.cons (known_core 1 31 _ _ (of_decide_eq_true (by rfl)) (by rfl) (by rfl) (by rfl)) .nil)) (HK.out)
    · exact core_stepAs _ (by rfl)
  intro vs y2 hc
  obtain ⟨vv0, vv1, vv2, vv3, rfl⟩ := len4 vs hc.lv
  have qq0 : vv0 = .agg #[.int .u64 (wd M 0 : Nat), .int .u64 (wd M 1 : Nat), .int .u64 (wd M 2 : Nat), .int .u64 (wd M 3 : Nat)] := by obtain ⟨xx, hx, hy⟩ := hc.ok 0 _ rfl rfl; exact (Option.some.inj (show some vv0 = some xx from hx)).trans hy
  have qq1 : vv1 = .agg #[.int .u64 (wd Z 0 : Nat), .int .u64 (wd Z 1 : Nat), .int .u64 (wd Z 2 : Nat), .int .u64 (wd Z 3 : Nat)] := by obtain ⟨xx, hx, hy⟩ := hc.ok 1 _ rfl rfl; exact (Option.some.inj (show some vv1 = some xx from hx)).trans hy
  have qq2 : vv2 = .int .i64 k := by obtain ⟨xx, hx, hy⟩ := hc.ok 2 _ rfl rfl; exact (Option.some.inj (show some vv2 = some xx from hx)).trans hy
  have qq3 : vv3 = .bool false := by obtain ⟨xx, hx, hy⟩ := hc.ok 3 _ rfl rfl; exact (Option.some.inj (show some vv3 = some xx from hx)).trans hy
  have BZ := hc.bel
  clear hc
  have Narr := Farr.out.on BZ
  have Nm := Fm.out.on BZ
  have NB := bel_tr BW.out BZ
  clear BW BZ Farr Fm
  subst qq0 qq1 qq2 qq3
  simp only [List.map_cons, List.map_nil, over, Act.put, List.setIfInBounds_toArray, List.set_cons_zero, List.set_cons_succ]
  refine wpAnyH_done (by kernel_rfl) ?_ _
  refine NoPanic.normal ?_
  have Farr := Lib.hid Narr
  have Fm := Lib.hid Nm
  have BW := Lib.hid NB
  clear NB Narr Nm
  have Larr := Farr.out.lt
  have carr0 : y2.cell? ⟨garr, 0, none⟩ = some (.int .u64 (wd X 0 : Nat)) := Farr.out.cell 0
  have carr1 : y2.cell? ⟨garr, 1, none⟩ = some (.int .u64 (wd X 1 : Nat)) := Farr.out.cell 1
  have carr2 : y2.cell? ⟨garr, 2, none⟩ = some (.int .u64 (wd X 2 : Nat)) := Farr.out.cell 2
  have carr3 : y2.cell? ⟨garr, 3, none⟩ = some (.int .u64 (wd X 3 : Nat)) := Farr.out.cell 3
  have carr4 : y2.cell? ⟨garr, 4, none⟩ = some (.int .u64 (wd Y 0 : Nat)) := Farr.out.cell 4
  have carr5 : y2.cell? ⟨garr, 5, none⟩ = some (.int .u64 (wd Y 1 : Nat)) := Farr.out.cell 5
  have carr6 : y2.cell? ⟨garr, 6, none⟩ = some (.int .u64 (wd Y 2 : Nat)) := Farr.out.cell 6
  have carr7 : y2.cell? ⟨garr, 7, none⟩ = some (.int .u64 (wd Y 3 : Nat)) := Farr.out.cell 7
  have carr8 : y2.cell? ⟨garr, 8, none⟩ = some (.int .u64 (wd V 0 : Nat)) := Farr.out.cell 8
  have carr9 : y2.cell? ⟨garr, 9, none⟩ = some (.int .u64 (wd V 1 : Nat)) := Farr.out.cell 9
  have carr10 : y2.cell? ⟨garr, 10, none⟩ = some (.int .u64 (wd V 2 : Nat)) := Farr.out.cell 10
  have carr11 : y2.cell? ⟨garr, 11, none⟩ = some (.int .u64 (wd V 3 : Nat)) := Farr.out.cell 11
  have Lm := Fm.out.lt
  have cm0 : y2.cell? ⟨gm, 0, none⟩ = some (.int .u64 (wd M 0 : Nat)) := Fm.out.cell 0
  have cm1 : y2.cell? ⟨gm, 1, none⟩ = some (.int .u64 (wd M 1 : Nat)) := Fm.out.cell 1
  have cm2 : y2.cell? ⟨gm, 2, none⟩ = some (.int .u64 (wd M 2 : Nat)) := Fm.out.cell 2
  have cm3 : y2.cell? ⟨gm, 3, none⟩ = some (.int .u64 (wd M 3 : Nat)) := Fm.out.cell 3
  go_wp2_with fail
  clear Larr carr0 carr1 carr2 carr3 carr4 carr5 carr6 carr7 carr8 carr9 carr10 carr11 Lm cm0 cm1 cm2 cm3
  refine (HB1.out _).mono ?_
  rintro e v3 ⟨rfl, z3⟩
  have Narr := Lib.hid (Farr.out.on z3)
  have Nm := Lib.hid (Fm.out.on z3)
  have NB := Lib.hid (bel_tr BW.out z3)
  clear BW z3 Farr Fm
  have Farr := Narr
  have Fm := Nm
  have BW := NB
  clear NB Narr Nm
  have Larr := Farr.out.lt
  have carr0 : v3.cell? ⟨garr, 0, none⟩ = some (.int .u64 (wd X 0 : Nat)) := Farr.out.cell 0
  have carr1 : v3.cell? ⟨garr, 1, none⟩ = some (.int .u64 (wd X 1 : Nat)) := Farr.out.cell 1
  have carr2 : v3.cell? ⟨garr, 2, none⟩ = some (.int .u64 (wd X 2 : Nat)) := Farr.out.cell 2
  have carr3 : v3.cell? ⟨garr, 3, none⟩ = some (.int .u64 (wd X 3 : Nat)) := Farr.out.cell 3
  have carr4 : v3.cell? ⟨garr, 4, none⟩ = some (.int .u64 (wd Y 0 : Nat)) := Farr.out.cell 4
  have carr5 : v3.cell? ⟨garr, 5, none⟩ = some (.int .u64 (wd Y 1 : Nat)) := Farr.out.cell 5
  have carr6 : v3.cell? ⟨garr, 6, none⟩ = some (.int .u64 (wd Y 2 : Nat)) := Farr.out.cell 6
  have carr7 : v3.cell? ⟨garr, 7, none⟩ = some (.int .u64 (wd Y 3 : Nat)) := Farr.out.cell 7
  have carr8 : v3.cell? ⟨garr, 8, none⟩ = some (.int .u64 (wd V 0 : Nat)) := Farr.out.cell 8
  have carr9 : v3.cell? ⟨garr, 9, none⟩ = some (.int .u64 (wd V 1 : Nat)) := Farr.out.cell 9
  have carr10 : v3.cell? ⟨garr, 10, none⟩ = some (.int .u64 (wd V 2 : Nat)) := Farr.out.cell 10
  have carr11 : v3.cell? ⟨garr, 11, none⟩ = some (.int .u64 (wd V 3 : Nat)) := Farr.out.cell 11
  have Lm := Fm.out.lt
  have cm0 : v3.cell? ⟨gm, 0, none⟩ = some (.int .u64 (wd M 0 : Nat)) := Fm.out.cell 0
  have cm1 : v3.cell? ⟨gm, 1, none⟩ = some (.int .u64 (wd M 1 : Nat)) := Fm.out.cell 1
  have cm2 : v3.cell? ⟨gm, 2, none⟩ = some (.int .u64 (wd M 2 : Nat)) := Fm.out.cell 2
  have cm3 : v3.cell? ⟨gm, 3, none⟩ = some (.int .u64 (wd M 3 : Nat)) := Fm.out.cell 3
  go_wp2_with fail
  clear Larr carr0 carr1 carr2 carr3 carr4 carr5 carr6 carr7 carr8 carr9 carr10 carr11 Lm cm0 cm1 cm2 cm3
  have Na : At (v3.alloc (.cells #[.int .u64 (wd a 0 : Nat), .int .u64 (wd a 1 : Nat), .int .u64 (wd a 2 : Nat), .int .u64 (wd a 3 : Nat)] 24)) (v3.heap.size) 24 #[.int .u64 (wd a 0 : Nat), .int .u64 (wd a 1 : Nat), .int .u64 (wd a 2 : Nat), .int .u64 (wd a 3 : Nat)] := At.at_ _ _ _ _ (by simp)
  have Narr : At (v3.alloc (.cells #[.int .u64 (wd a 0 : Nat), .int .u64 (wd a 1 : Nat), .int .u64 (wd a 2 : Nat), .int .u64 (wd a 3 : Nat)] 24)) garr 25 #[.int .u64 (wd X 0 : Nat), .int .u64 (wd X 1 : Nat), .int .u64 (wd X 2 : Nat), .int .u64 (wd X 3 : Nat), .int .u64 (wd Y 0 : Nat), .int .u64 (wd Y 1 : Nat), .int .u64 (wd Y 2 : Nat), .int .u64 (wd Y 3 : Nat), .int .u64 (wd V 0 : Nat), .int .u64 (wd V 1 : Nat), .int .u64 (wd V 2 : Nat), .int .u64 (wd V 3 : Nat)] := Farr.out.alloc _
  have Nm : At (v3.alloc (.cells #[.int .u64 (wd a 0 : Nat), .int .u64 (wd a 1 : Nat), .int .u64 (wd a 2 : Nat), .int .u64 (wd a 3 : Nat)] 24)) gm 24 #[.int .u64 (wd M 0 : Nat), .int .u64 (wd M 1 : Nat), .int .u64 (wd M 2 : Nat), .int .u64 (wd M 3 : Nat)] := Fm.out.alloc _
  have NB : Below w.heap.size w (v3.alloc (.cells #[.int .u64 (wd a 0 : Nat), .int .u64 (wd a 1 : Nat), .int .u64 (wd a 2 : Nat), .int .u64 (wd a 3 : Nat)] 24)) := gr_alloc BW.out _
  clear BW Farr Fm
  generalize (v3.alloc (.cells #[.int .u64 (wd a 0 : Nat), .int .u64 (wd a 1 : Nat), .int .u64 (wd a 2 : Nat), .int .u64 (wd a 3 : Nat)] 24)) = W4 at *
  generalize v3.heap.size = ga at *
  have Farr := Lib.hid Narr
  have Fm := Lib.hid Nm
  have Fa := Lib.hid Na
  have BW := Lib.hid NB
  clear NB Narr Nm Na
  refine (HB2.out _).mono ?_
  rintro e v5 ⟨rfl, z5⟩
  have Narr := Lib.hid (Farr.out.on z5)
  have Nm := Lib.hid (Fm.out.on z5)
  have Na := Lib.hid (Fa.out.on z5)
  have NB := Lib.hid (bel_tr BW.out z5)
  clear BW z5 Farr Fm Fa
  have Farr := Narr
  have Fm := Nm
  have Fa := Na
  have BW := NB
  clear NB Narr Nm Na
  have Larr := Farr.out.lt
  have carr0 : v5.cell? ⟨garr, 0, none⟩ = some (.int .u64 (wd X 0 : Nat)) := Farr.out.cell 0
  have carr1 : v5.cell? ⟨garr, 1, none⟩ = some (.int .u64 (wd X 1 : Nat)) := Farr.out.cell 1
  have carr2 : v5.cell? ⟨garr, 2, none⟩ = some (.int .u64 (wd X 2 : Nat)) := Farr.out.cell 2
  have carr3 : v5.cell? ⟨garr, 3, none⟩ = some (.int .u64 (wd X 3 : Nat)) := Farr.out.cell 3
  have carr4 : v5.cell? ⟨garr, 4, none⟩ = some (.int .u64 (wd Y 0 : Nat)) := Farr.out.cell 4
  have carr5 : v5.cell? ⟨garr, 5, none⟩ = some (.int .u64 (wd Y 1 : Nat)) := Farr.out.cell 5
  have carr6 : v5.cell? ⟨garr, 6, none⟩ = some (.int .u64 (wd Y 2 : Nat)) := Farr.out.cell 6
  have carr7 : v5.cell? ⟨garr, 7, none⟩ = some (.int .u64 (wd Y 3 : Nat)) := Farr.out.cell 7
  have carr8 : v5.cell? ⟨garr, 8, none⟩ = some (.int .u64 (wd V 0 : Nat)) := Farr.out.cell 8
  have carr9 : v5.cell? ⟨garr, 9, none⟩ = some (.int .u64 (wd V 1 : Nat)) := Farr.out.cell 9
  have carr10 : v5.cell? ⟨garr, 10, none⟩ = some (.int .u64 (wd V 2 : Nat)) := Farr.out.cell 10
  have carr11 : v5.cell? ⟨garr, 11, none⟩ = some (.int .u64 (wd V 3 : Nat)) := Farr.out.cell 11
  have Lm := Fm.out.lt
  have cm0 : v5.cell? ⟨gm, 0, none⟩ = some (.int .u64 (wd M 0 : Nat)) := Fm.out.cell 0
  have cm1 : v5.cell? ⟨gm, 1, none⟩ = some (.int .u64 (wd M 1 : Nat)) := Fm.out.cell 1
  have cm2 : v5.cell? ⟨gm, 2, none⟩ = some (.int .u64 (wd M 2 : Nat)) := Fm.out.cell 2
  have cm3 : v5.cell? ⟨gm, 3, none⟩ = some (.int .u64 (wd M 3 : Nat)) := Fm.out.cell 3
  go_wp2_with fail
  clear Larr carr0 carr1 carr2 carr3 carr4 carr5 carr6 carr7 carr8 carr9 carr10 carr11 Lm cm0 cm1 cm2 cm3
  have Nb : At (v5.alloc (.cells #[.int .u64 (wd b 0 : Nat), .int .u64 (wd b 1 : Nat), .int .u64 (wd b 2 : Nat), .int .u64 (wd b 3 : Nat)] 24)) (v5.heap.size) 24 #[.int .u64 (wd b 0 : Nat), .int .u64 (wd b 1 : Nat), .int .u64 (wd b 2 : Nat), .int .u64 (wd b 3 : Nat)] := At.at_ _ _ _ _ (by simp)
  have Narr : At (v5.alloc (.cells #[.int .u64 (wd b 0 : Nat), .int .u64 (wd b 1 : Nat), .int .u64 (wd b 2 : Nat), .int .u64 (wd b 3 : Nat)] 24)) garr 25 #[.int .u64 (wd X 0 : Nat), .int .u64 (wd X 1 : Nat), .int .u64 (wd X 2 : Nat), .int .u64 (wd X 3 : Nat), .int .u64 (wd Y 0 : Nat), .int .u64 (wd Y 1 : Nat), .int .u64 (wd Y 2 : Nat), .int .u64 (wd Y 3 : Nat), .int .u64 (wd V 0 : Nat), .int .u64 (wd V 1 : Nat), .int .u64 (wd V 2 : Nat), .int .u64 (wd V 3 : Nat)] := Farr.out.alloc _
  have Nm : At (v5.alloc (.cells #[.int .u64 (wd b 0 : Nat), .int .u64 (wd b 1 : Nat), .int .u64 (wd b 2 : Nat), .int .u64 (wd b 3 : Nat)] 24)) gm 24 #[.int .u64 (wd M 0 : Nat), .int .u64 (wd M 1 : Nat), .int .u64 (wd M 2 : Nat), .int .u64 (wd M 3 : Nat)] := Fm.out.alloc _
  have Na : At (v5.alloc (.cells #[.int .u64 (wd b 0 : Nat), .int .u64 (wd b 1 : Nat), .int .u64 (wd b 2 : Nat), .int .u64 (wd b 3 : Nat)] 24)) ga 24 #[.int .u64 (wd a 0 : Nat), .int .u64 (wd a 1 : Nat), .int .u64 (wd a 2 : Nat), .int .u64 (wd a 3 : Nat)] := Fa.out.alloc _
  have NB : Below w.heap.size w (v5.alloc (.cells #[.int .u64 (wd b 0 : Nat), .int .u64 (wd b 1 : Nat), .int .u64 (wd b 2 : Nat), .int .u64 (wd b 3 : Nat)] 24)) := gr_alloc BW.out _
  clear BW Farr Fm Fa
  generalize (v5.alloc (.cells #[.int .u64 (wd b 0 : Nat), .int .u64 (wd b 1 : Nat), .int .u64 (wd b 2 : Nat), .int .u64 (wd b 3 : Nat)] 24)) = W6 at *
  generalize v5.heap.size = gb at *
  have Farr := Lib.hid Narr
  have Fm := Lib.hid Nm
  have Fa := Lib.hid Na
  have Fb := Lib.hid Nb
  have BW := Lib.hid NB
  clear NB Narr Nm Na Nb
  refine (HB3.out _).mono ?_
  rintro e v7 ⟨rfl, z7⟩
  have Narr := Lib.hid (Farr.out.on z7)
  have Nm := Lib.hid (Fm.out.on z7)
  have Na := Lib.hid (Fa.out.on z7)
  have Nb := Lib.hid (Fb.out.on z7)
  have NB := Lib.hid (bel_tr BW.out z7)
  clear BW z7 Farr Fm Fa Fb
  have Farr := Narr
  have Fm := Nm
  have Fa := Na
  have Fb := Nb
  have BW := NB
  clear NB Narr Nm Na Nb
  have La := Fa.out.lt
  have ca0 : v7.cell? ⟨ga, 0, none⟩ = some (.int .u64 (wd a 0 : Nat)) := Fa.out.cell 0
  have ca1 : v7.cell? ⟨ga, 1, none⟩ = some (.int .u64 (wd a 1 : Nat)) := Fa.out.cell 1
  have ca2 : v7.cell? ⟨ga, 2, none⟩ = some (.int .u64 (wd a 2 : Nat)) := Fa.out.cell 2
  have ca3 : v7.cell? ⟨ga, 3, none⟩ = some (.int .u64 (wd a 3 : Nat)) := Fa.out.cell 3
  have Lb := Fb.out.lt
  have cb0 : v7.cell? ⟨gb, 0, none⟩ = some (.int .u64 (wd b 0 : Nat)) := Fb.out.cell 0
  have cb1 : v7.cell? ⟨gb, 1, none⟩ = some (.int .u64 (wd b 1 : Nat)) := Fb.out.cell 1
  have cb2 : v7.cell? ⟨gb, 2, none⟩ = some (.int .u64 (wd b 2 : Nat)) := Fb.out.cell 2
  have cb3 : v7.cell? ⟨gb, 3, none⟩ = some (.int .u64 (wd b 3 : Nat)) := Fb.out.cell 3
  have Lm := Fm.out.lt
  have cm0 : v7.cell? ⟨gm, 0, none⟩ = some (.int .u64 (wd M 0 : Nat)) := Fm.out.cell 0
  have cm1 : v7.cell? ⟨gm, 1, none⟩ = some (.int .u64 (wd M 1 : Nat)) := Fm.out.cell 1
  have cm2 : v7.cell? ⟨gm, 2, none⟩ = some (.int .u64 (wd M 2 : Nat)) := Fm.out.cell 2
  have cm3 : v7.cell? ⟨gm, 3, none⟩ = some (.int .u64 (wd M 3 : Nat)) := Fm.out.cell 3
  go_wp2_with fail
  clear La ca0 ca1 ca2 ca3 Lb cb0 cb1 cb2 cb3 Lm cm0 cm1 cm2 cm3
  have Nc : At (v7.alloc (.cells #[.int .u64 (wd c 0 : Nat), .int .u64 (wd c 1 : Nat), .int .u64 (wd c 2 : Nat), .int .u64 (wd c 3 : Nat)] 24)) (v7.heap.size) 24 #[.int .u64 (wd c 0 : Nat), .int .u64 (wd c 1 : Nat), .int .u64 (wd c 2 : Nat), .int .u64 (wd c 3 : Nat)] := At.at_ _ _ _ _ (by simp)
  have Narr : At (v7.alloc (.cells #[.int .u64 (wd c 0 : Nat), .int .u64 (wd c 1 : Nat), .int .u64 (wd c 2 : Nat), .int .u64 (wd c 3 : Nat)] 24)) garr 25 #[.int .u64 (wd X 0 : Nat), .int .u64 (wd X 1 : Nat), .int .u64 (wd X 2 : Nat), .int .u64 (wd X 3 : Nat), .int .u64 (wd Y 0 : Nat), .int .u64 (wd Y 1 : Nat), .int .u64 (wd Y 2 : Nat), .int .u64 (wd Y 3 : Nat), .int .u64 (wd V 0 : Nat), .int .u64 (wd V 1 : Nat), .int .u64 (wd V 2 : Nat), .int .u64 (wd V 3 : Nat)] := Farr.out.alloc _
  have Nm : At (v7.alloc (.cells #[.int .u64 (wd c 0 : Nat), .int .u64 (wd c 1 : Nat), .int .u64 (wd c 2 : Nat), .int .u64 (wd c 3 : Nat)] 24)) gm 24 #[.int .u64 (wd M 0 : Nat), .int .u64 (wd M 1 : Nat), .int .u64 (wd M 2 : Nat), .int .u64 (wd M 3 : Nat)] := Fm.out.alloc _
  have Na : At (v7.alloc (.cells #[.int .u64 (wd c 0 : Nat), .int .u64 (wd c 1 : Nat), .int .u64 (wd c 2 : Nat), .int .u64 (wd c 3 : Nat)] 24)) ga 24 #[.int .u64 (wd a 0 : Nat), .int .u64 (wd a 1 : Nat), .int .u64 (wd a 2 : Nat), .int .u64 (wd a 3 : Nat)] := Fa.out.alloc _
  have Nb : At (v7.alloc (.cells #[.int .u64 (wd c 0 : Nat), .int .u64 (wd c 1 : Nat), .int .u64 (wd c 2 : Nat), .int .u64 (wd c 3 : Nat)] 24)) gb 24 #[.int .u64 (wd b 0 : Nat), .int .u64 (wd b 1 : Nat), .int .u64 (wd b 2 : Nat), .int .u64 (wd b 3 : Nat)] := Fb.out.alloc _
  have NB : Below w.heap.size w (v7.alloc (.cells #[.int .u64 (wd c 0 : Nat), .int .u64 (wd c 1 : Nat), .int .u64 (wd c 2 : Nat), .int .u64 (wd c 3 : Nat)] 24)) := gr_alloc BW.out _
  clear BW Farr Fm Fa Fb
  generalize (v7.alloc (.cells #[.int .u64 (wd c 0 : Nat), .int .u64 (wd c 1 : Nat), .int .u64 (wd c 2 : Nat), .int .u64 (wd c 3 : Nat)] 24)) = W8 at *
  generalize v7.heap.size = gc at *
  have Farr := Lib.hid Narr
  have Fm := Lib.hid Nm
  have Fa := Lib.hid Na
  have Fb := Lib.hid Nb
  have Fc := Lib.hid Nc
  have BW := Lib.hid NB
  clear NB Narr Nm Na Nb Nc
  clear Farr
  refine (HS1.out _).mono ?_
  rintro e v9 ⟨rfl, z9⟩
  have Nm := Lib.hid (Fm.out.on z9)
  have Na := Lib.hid (Fa.out.on z9)
  have Nb := Lib.hid (Fb.out.on z9)
  have Nc := Lib.hid (Fc.out.on z9)
  have NB := Lib.hid (bel_tr BW.out z9)
  clear BW z9 Fm Fa Fb Fc
  have Fm := Nm
  have Fa := Na
  have Fb := Nb
  have Fc := Nc
  have BW := NB
  clear NB Nm Na Nb Nc
  have La := Fa.out.lt
  have ca0 : v9.cell? ⟨ga, 0, none⟩ = some (.int .u64 (wd a 0 : Nat)) := Fa.out.cell 0
  have ca1 : v9.cell? ⟨ga, 1, none⟩ = some (.int .u64 (wd a 1 : Nat)) := Fa.out.cell 1
  have ca2 : v9.cell? ⟨ga, 2, none⟩ = some (.int .u64 (wd a 2 : Nat)) := Fa.out.cell 2
  have ca3 : v9.cell? ⟨ga, 3, none⟩ = some (.int .u64 (wd a 3 : Nat)) := Fa.out.cell 3
  have Lb := Fb.out.lt
  have cb0 : v9.cell? ⟨gb, 0, none⟩ = some (.int .u64 (wd b 0 : Nat)) := Fb.out.cell 0
  have cb1 : v9.cell? ⟨gb, 1, none⟩ = some (.int .u64 (wd b 1 : Nat)) := Fb.out.cell 1
  have cb2 : v9.cell? ⟨gb, 2, none⟩ = some (.int .u64 (wd b 2 : Nat)) := Fb.out.cell 2
  have cb3 : v9.cell? ⟨gb, 3, none⟩ = some (.int .u64 (wd b 3 : Nat)) := Fb.out.cell 3
  have Lm := Fm.out.lt
  have cm0 : v9.cell? ⟨gm, 0, none⟩ = some (.int .u64 (wd M 0 : Nat)) := Fm.out.cell 0
  have cm1 : v9.cell? ⟨gm, 1, none⟩ = some (.int .u64 (wd M 1 : Nat)) := Fm.out.cell 1
  have cm2 : v9.cell? ⟨gm, 2, none⟩ = some (.int .u64 (wd M 2 : Nat)) := Fm.out.cell 2
  have cm3 : v9.cell? ⟨gm, 3, none⟩ = some (.int .u64 (wd M 3 : Nat)) := Fm.out.cell 3
  go_wp2_with fail
  clear La ca0 ca1 ca2 ca3 Lb cb0 cb1 cb2 cb3 Lm cm0 cm1 cm2 cm3
  have Nab : At (v9.alloc (.cells #[.int .u64 (wd s1 0 : Nat), .int .u64 (wd s1 1 : Nat), .int .u64 (wd s1 2 : Nat), .int .u64 (wd s1 3 : Nat)] 24)) (v9.heap.size) 24 #[.int .u64 (wd s1 0 : Nat), .int .u64 (wd s1 1 : Nat), .int .u64 (wd s1 2 : Nat), .int .u64 (wd s1 3 : Nat)] := At.at_ _ _ _ _ (by simp)
  have Nm : At (v9.alloc (.cells #[.int .u64 (wd s1 0 : Nat), .int .u64 (wd s1 1 : Nat), .int .u64 (wd s1 2 : Nat), .int .u64 (wd s1 3 : Nat)] 24)) gm 24 #[.int .u64 (wd M 0 : Nat), .int .u64 (wd M 1 : Nat), .int .u64 (wd M 2 : Nat), .int .u64 (wd M 3 : Nat)] := Fm.out.alloc _
  have Na : At (v9.alloc (.cells #[.int .u64 (wd s1 0 : Nat), .int .u64 (wd s1 1 : Nat), .int .u64 (wd s1 2 : Nat), .int .u64 (wd s1 3 : Nat)] 24)) ga 24 #[.int .u64 (wd a 0 : Nat), .int .u64 (wd a 1 : Nat), .int .u64 (wd a 2 : Nat), .int .u64 (wd a 3 : Nat)] := Fa.out.alloc _
  have Nb : At (v9.alloc (.cells #[.int .u64 (wd s1 0 : Nat), .int .u64 (wd s1 1 : Nat), .int .u64 (wd s1 2 : Nat), .int .u64 (wd s1 3 : Nat)] 24)) gb 24 #[.int .u64 (wd b 0 : Nat), .int .u64 (wd b 1 : Nat), .int .u64 (wd b 2 : Nat), .int .u64 (wd b 3 : Nat)] := Fb.out.alloc _
  have Nc : At (v9.alloc (.cells #[.int .u64 (wd s1 0 : Nat), .int .u64 (wd s1 1 : Nat), .int .u64 (wd s1 2 : Nat), .int .u64 (wd s1 3 : Nat)] 24)) gc 24 #[.int .u64 (wd c 0 : Nat), .int .u64 (wd c 1 : Nat), .int .u64 (wd c 2 : Nat), .int .u64 (wd c 3 : Nat)] := Fc.out.alloc _
  have NB : Below w.heap.size w (v9.alloc (.cells #[.int .u64 (wd s1 0 : Nat), .int .u64 (wd s1 1 : Nat), .int .u64 (wd s1 2 : Nat), .int .u64 (wd s1 3 : Nat)] 24)) := gr_alloc BW.out _
  clear BW Fm Fa Fb Fc
  generalize (v9.alloc (.cells #[.int .u64 (wd s1 0 : Nat), .int .u64 (wd s1 1 : Nat), .int .u64 (wd s1 2 : Nat), .int .u64 (wd s1 3 : Nat)] 24)) = W10 at *
  generalize v9.heap.size = gab at *
  have Fm := Lib.hid Nm
  have Fa := Lib.hid Na
  have Fb := Lib.hid Nb
  have Fc := Lib.hid Nc
  have Fab := Lib.hid Nab
  have BW := Lib.hid NB
  clear NB Nm Na Nb Nc Nab
  refine (HS2.out _).mono ?_
  rintro e v11 ⟨rfl, z11⟩
  have Nm := Lib.hid (Fm.out.on z11)
  have Na := Lib.hid (Fa.out.on z11)
  have Nb := Lib.hid (Fb.out.on z11)
  have Nc := Lib.hid (Fc.out.on z11)
  have Nab := Lib.hid (Fab.out.on z11)
  have NB := Lib.hid (bel_tr BW.out z11)
  clear BW z11 Fm Fa Fb Fc Fab
  have Fm := Nm
  have Fa := Na
  have Fb := Nb
  have Fc := Nc
  have Fab := Nab
  have BW := NB
  clear NB Nm Na Nb Nc Nab
  have Lc := Fc.out.lt
  have cc0 : v11.cell? ⟨gc, 0, none⟩ = some (.int .u64 (wd c 0 : Nat)) := Fc.out.cell 0
  have cc1 : v11.cell? ⟨gc, 1, none⟩ = some (.int .u64 (wd c 1 : Nat)) := Fc.out.cell 1
  have cc2 : v11.cell? ⟨gc, 2, none⟩ = some (.int .u64 (wd c 2 : Nat)) := Fc.out.cell 2
  have cc3 : v11.cell? ⟨gc, 3, none⟩ = some (.int .u64 (wd c 3 : Nat)) := Fc.out.cell 3
  have Lb := Fb.out.lt
  have cb0 : v11.cell? ⟨gb, 0, none⟩ = some (.int .u64 (wd b 0 : Nat)) := Fb.out.cell 0
  have cb1 : v11.cell? ⟨gb, 1, none⟩ = some (.int .u64 (wd b 1 : Nat)) := Fb.out.cell 1
  have cb2 : v11.cell? ⟨gb, 2, none⟩ = some (.int .u64 (wd b 2 : Nat)) := Fb.out.cell 2
  have cb3 : v11.cell? ⟨gb, 3, none⟩ = some (.int .u64 (wd b 3 : Nat)) := Fb.out.cell 3
  have Lm := Fm.out.lt
  have cm0 : v11.cell? ⟨gm, 0, none⟩ = some (.int .u64 (wd M 0 : Nat)) := Fm.out.cell 0
  have cm1 : v11.cell? ⟨gm, 1, none⟩ = some (.int .u64 (wd M 1 : Nat)) := Fm.out.cell 1
  have cm2 : v11.cell? ⟨gm, 2, none⟩ = some (.int .u64 (wd M 2 : Nat)) := Fm.out.cell 2
  have cm3 : v11.cell? ⟨gm, 3, none⟩ = some (.int .u64 (wd M 3 : Nat)) := Fm.out.cell 3
  go_wp2_with fail
  clear Lc cc0 cc1 cc2 cc3 Lb cb0 cb1 cb2 cb3 Lm cm0 cm1 cm2 cm3
  have Nba : At (v11.alloc (.cells #[.int .u64 (wd s1 0 : Nat), .int .u64 (wd s1 1 : Nat), .int .u64 (wd s1 2 : Nat), .int .u64 (wd s1 3 : Nat)] 24)) (v11.heap.size) 24 #[.int .u64 (wd s1 0 : Nat), .int .u64 (wd s1 1 : Nat), .int .u64 (wd s1 2 : Nat), .int .u64 (wd s1 3 : Nat)] := At.at_ _ _ _ _ (by simp)
  have Nm : At (v11.alloc (.cells #[.int .u64 (wd s1 0 : Nat), .int .u64 (wd s1 1 : Nat), .int .u64 (wd s1 2 : Nat), .int .u64 (wd s1 3 : Nat)] 24)) gm 24 #[.int .u64 (wd M 0 : Nat), .int .u64 (wd M 1 : Nat), .int .u64 (wd M 2 : Nat), .int .u64 (wd M 3 : Nat)] := Fm.out.alloc _
  have Na : At (v11.alloc (.cells #[.int .u64 (wd s1 0 : Nat), .int .u64 (wd s1 1 : Nat), .int .u64 (wd s1 2 : Nat), .int .u64 (wd s1 3 : Nat)] 24)) ga 24 #[.int .u64 (wd a 0 : Nat), .int .u64 (wd a 1 : Nat), .int .u64 (wd a 2 : Nat), .int .u64 (wd a 3 : Nat)] := Fa.out.alloc _
  have Nb : At (v11.alloc (.cells #[.int .u64 (wd s1 0 : Nat), .int .u64 (wd s1 1 : Nat), .int .u64 (wd s1 2 : Nat), .int .u64 (wd s1 3 : Nat)] 24)) gb 24 #[.int .u64 (wd b 0 : Nat), .int .u64 (wd b 1 : Nat), .int .u64 (wd b 2 : Nat), .int .u64 (wd b 3 : Nat)] := Fb.out.alloc _
  have Nc : At (v11.alloc (.cells #[.int .u64 (wd s1 0 : Nat), .int .u64 (wd s1 1 : Nat), .int .u64 (wd s1 2 : Nat), .int .u64 (wd s1 3 : Nat)] 24)) gc 24 #[.int .u64 (wd c 0 : Nat), .int .u64 (wd c 1 : Nat), .int .u64 (wd c 2 : Nat), .int .u64 (wd c 3 : Nat)] := Fc.out.alloc _
  have Nab : At (v11.alloc (.cells #[.int .u64 (wd s1 0 : Nat), .int .u64 (wd s1 1 : Nat), .int .u64 (wd s1 2 : Nat), .int .u64 (wd s1 3 : Nat)] 24)) gab 24 #[.int .u64 (wd s1 0 : Nat), .int .u64 (wd s1 1 : Nat), .int .u64 (wd s1 2 : Nat), .int .u64 (wd s1 3 : Nat)] := Fab.out.alloc _
  have NB : Below w.heap.size w (v11.alloc (.cells #[.int .u64 (wd s1 0 : Nat), .int .u64 (wd s1 1 : Nat), .int .u64 (wd s1 2 : Nat), .int .u64 (wd s1 3 : Nat)] 24)) := gr_alloc BW.out _
  clear BW Fm Fa Fb Fc Fab
  generalize (v11.alloc (.cells #[.int .u64 (wd s1 0 : Nat), .int .u64 (wd s1 1 : Nat), .int .u64 (wd s1 2 : Nat), .int .u64 (wd s1 3 : Nat)] 24)) = W12 at *
  generalize v11.heap.size = gba at *
  have Fm := Lib.hid Nm
  have Fa := Lib.hid Na
  have Fb := Lib.hid Nb
  have Fc := Lib.hid Nc
  have Fab := Lib.hid Nab
  have Fba := Lib.hid Nba
  have BW := Lib.hid NB
  clear NB Nm Na Nb Nc Nab Nba
  refine (HS3.out _).mono ?_
  rintro e v13 ⟨rfl, z13⟩
  have Nm := Lib.hid (Fm.out.on z13)
  have Na := Lib.hid (Fa.out.on z13)
  have Nb := Lib.hid (Fb.out.on z13)
  have Nc := Lib.hid (Fc.out.on z13)
  have Nab := Lib.hid (Fab.out.on z13)
  have Nba := Lib.hid (Fba.out.on z13)
  have NB := Lib.hid (bel_tr BW.out z13)
  clear BW z13 Fm Fa Fb Fc Fab Fba
  have Fm := Nm
  have Fa := Na
  have Fb := Nb
  have Fc := Nc
  have Fab := Nab
  have Fba := Nba
  have BW := NB
  clear NB Nm Na Nb Nc Nab Nba
  have Lab := Fab.out.lt
  have cab0 : v13.cell? ⟨gab, 0, none⟩ = some (.int .u64 (wd s1 0 : Nat)) := Fab.out.cell 0
  have cab1 : v13.cell? ⟨gab, 1, none⟩ = some (.int .u64 (wd s1 1 : Nat)) := Fab.out.cell 1
  have cab2 : v13.cell? ⟨gab, 2, none⟩ = some (.int .u64 (wd s1 2 : Nat)) := Fab.out.cell 2
  have cab3 : v13.cell? ⟨gab, 3, none⟩ = some (.int .u64 (wd s1 3 : Nat)) := Fab.out.cell 3
  have Lc := Fc.out.lt
  have cc0 : v13.cell? ⟨gc, 0, none⟩ = some (.int .u64 (wd c 0 : Nat)) := Fc.out.cell 0
  have cc1 : v13.cell? ⟨gc, 1, none⟩ = some (.int .u64 (wd c 1 : Nat)) := Fc.out.cell 1
  have cc2 : v13.cell? ⟨gc, 2, none⟩ = some (.int .u64 (wd c 2 : Nat)) := Fc.out.cell 2
  have cc3 : v13.cell? ⟨gc, 3, none⟩ = some (.int .u64 (wd c 3 : Nat)) := Fc.out.cell 3
  have Lm := Fm.out.lt
  have cm0 : v13.cell? ⟨gm, 0, none⟩ = some (.int .u64 (wd M 0 : Nat)) := Fm.out.cell 0
  have cm1 : v13.cell? ⟨gm, 1, none⟩ = some (.int .u64 (wd M 1 : Nat)) := Fm.out.cell 1
  have cm2 : v13.cell? ⟨gm, 2, none⟩ = some (.int .u64 (wd M 2 : Nat)) := Fm.out.cell 2
  have cm3 : v13.cell? ⟨gm, 3, none⟩ = some (.int .u64 (wd M 3 : Nat)) := Fm.out.cell 3
  go_wp2_with fail
  clear Lab cab0 cab1 cab2 cab3 Lc cc0 cc1 cc2 cc3 Lm cm0 cm1 cm2 cm3
  have Nbc : At (v13.alloc (.cells #[.int .u64 (wd s2 0 : Nat), .int .u64 (wd s2 1 : Nat), .int .u64 (wd s2 2 : Nat), .int .u64 (wd s2 3 : Nat)] 24)) (v13.heap.size) 24 #[.int .u64 (wd s2 0 : Nat), .int .u64 (wd s2 1 : Nat), .int .u64 (wd s2 2 : Nat), .int .u64 (wd s2 3 : Nat)] := At.at_ _ _ _ _ (by simp)
  have Nm : At (v13.alloc (.cells #[.int .u64 (wd s2 0 : Nat), .int .u64 (wd s2 1 : Nat), .int .u64 (wd s2 2 : Nat), .int .u64 (wd s2 3 : Nat)] 24)) gm 24 #[.int .u64 (wd M 0 : Nat), .int .u64 (wd M 1 : Nat), .int .u64 (wd M 2 : Nat), .int .u64 (wd M 3 : Nat)] := Fm.out.alloc _
  have Na : At (v13.alloc (.cells #[.int .u64 (wd s2 0 : Nat), .int .u64 (wd s2 1 : Nat), .int .u64 (wd s2 2 : Nat), .int .u64 (wd s2 3 : Nat)] 24)) ga 24 #[.int .u64 (wd a 0 : Nat), .int .u64 (wd a 1 : Nat), .int .u64 (wd a 2 : Nat), .int .u64 (wd a 3 : Nat)] := Fa.out.alloc _
  have Nb : At (v13.alloc (.cells #[.int .u64 (wd s2 0 : Nat), .int .u64 (wd s2 1 : Nat), .int .u64 (wd s2 2 : Nat), .int .u64 (wd s2 3 : Nat)] 24)) gb 24 #[.int .u64 (wd b 0 : Nat), .int .u64 (wd b 1 : Nat), .int .u64 (wd b 2 : Nat), .int .u64 (wd b 3 : Nat)] := Fb.out.alloc _
  have Nc : At (v13.alloc (.cells #[.int .u64 (wd s2 0 : Nat), .int .u64 (wd s2 1 : Nat), .int .u64 (wd s2 2 : Nat), .int .u64 (wd s2 3 : Nat)] 24)) gc 24 #[.int .u64 (wd c 0 : Nat), .int .u64 (wd c 1 : Nat), .int .u64 (wd c 2 : Nat), .int .u64 (wd c 3 : Nat)] := Fc.out.alloc _
  have Nab : At (v13.alloc (.cells #[.int .u64 (wd s2 0 : Nat), .int .u64 (wd s2 1 : Nat), .int .u64 (wd s2 2 : Nat), .int .u64 (wd s2 3 : Nat)] 24)) gab 24 #[.int .u64 (wd s1 0 : Nat), .int .u64 (wd s1 1 : Nat), .int .u64 (wd s1 2 : Nat), .int .u64 (wd s1 3 : Nat)] := Fab.out.alloc _
  have Nba : At (v13.alloc (.cells #[.int .u64 (wd s2 0 : Nat), .int .u64 (wd s2 1 : Nat), .int .u64 (wd s2 2 : Nat), .int .u64 (wd s2 3 : Nat)] 24)) gba 24 #[.int .u64 (wd s1 0 : Nat), .int .u64 (wd s1 1 : Nat), .int .u64 (wd s1 2 : Nat), .int .u64 (wd s1 3 : Nat)] := Fba.out.alloc _
  have NB : Below w.heap.size w (v13.alloc (.cells #[.int .u64 (wd s2 0 : Nat), .int .u64 (wd s2 1 : Nat), .int .u64 (wd s2 2 : Nat), .int .u64 (wd s2 3 : Nat)] 24)) := gr_alloc BW.out _
  clear BW Fm Fa Fb Fc Fab Fba
  generalize (v13.alloc (.cells #[.int .u64 (wd s2 0 : Nat), .int .u64 (wd s2 1 : Nat), .int .u64 (wd s2 2 : Nat), .int .u64 (wd s2 3 : Nat)] 24)) = W14 at *
  generalize v13.heap.size = gbc at *
  have Fm := Lib.hid Nm
  have Fa := Lib.hid Na
  have Fb := Lib.hid Nb
  have Fc := Lib.hid Nc
  have Fab := Lib.hid Nab
  have Fba := Lib.hid Nba
  have Fbc := Lib.hid Nbc
  have BW := Lib.hid NB
  clear NB Nm Na Nb Nc Nab Nba Nbc
  refine (HS4.out _).mono ?_
  rintro e v15 ⟨rfl, z15⟩
  have Nm := Lib.hid (Fm.out.on z15)
  have Na := Lib.hid (Fa.out.on z15)
  have Nb := Lib.hid (Fb.out.on z15)
  have Nc := Lib.hid (Fc.out.on z15)
  have Nab := Lib.hid (Fab.out.on z15)
  have Nba := Lib.hid (Fba.out.on z15)
  have Nbc := Lib.hid (Fbc.out.on z15)
  have NB := Lib.hid (bel_tr BW.out z15)
  clear BW z15 Fm Fa Fb Fc Fab Fba Fbc
  have Fm := Nm
  have Fa := Na
  have Fb := Nb
  have Fc := Nc
  have Fab := Nab
  have Fba := Nba
  have Fbc := Nbc
  have BW := NB
  clear NB Nm Na Nb Nc Nab Nba Nbc
  have La := Fa.out.lt
  have ca0 : v15.cell? ⟨ga, 0, none⟩ = some (.int .u64 (wd a 0 : Nat)) := Fa.out.cell 0
  have ca1 : v15.cell? ⟨ga, 1, none⟩ = some (.int .u64 (wd a 1 : Nat)) := Fa.out.cell 1
  have ca2 : v15.cell? ⟨ga, 2, none⟩ = some (.int .u64 (wd a 2 : Nat)) := Fa.out.cell 2
  have ca3 : v15.cell? ⟨ga, 3, none⟩ = some (.int .u64 (wd a 3 : Nat)) := Fa.out.cell 3
  have Lbc := Fbc.out.lt
  have cbc0 : v15.cell? ⟨gbc, 0, none⟩ = some (.int .u64 (wd s2 0 : Nat)) := Fbc.out.cell 0
  have cbc1 : v15.cell? ⟨gbc, 1, none⟩ = some (.int .u64 (wd s2 1 : Nat)) := Fbc.out.cell 1
  have cbc2 : v15.cell? ⟨gbc, 2, none⟩ = some (.int .u64 (wd s2 2 : Nat)) := Fbc.out.cell 2
  have cbc3 : v15.cell? ⟨gbc, 3, none⟩ = some (.int .u64 (wd s2 3 : Nat)) := Fbc.out.cell 3
  have Lm := Fm.out.lt
  have cm0 : v15.cell? ⟨gm, 0, none⟩ = some (.int .u64 (wd M 0 : Nat)) := Fm.out.cell 0
  have cm1 : v15.cell? ⟨gm, 1, none⟩ = some (.int .u64 (wd M 1 : Nat)) := Fm.out.cell 1
  have cm2 : v15.cell? ⟨gm, 2, none⟩ = some (.int .u64 (wd M 2 : Nat)) := Fm.out.cell 2
  have cm3 : v15.cell? ⟨gm, 3, none⟩ = some (.int .u64 (wd M 3 : Nat)) := Fm.out.cell 3
  go_wp2_with fail
  clear La ca0 ca1 ca2 ca3 Lbc cbc0 cbc1 cbc2 cbc3 Lm cm0 cm1 cm2 cm3
  have Nle : At (v15.alloc (.cells #[.int .u64 (wd s3 0 : Nat), .int .u64 (wd s3 1 : Nat), .int .u64 (wd s3 2 : Nat), .int .u64 (wd s3 3 : Nat)] 24)) (v15.heap.size) 24 #[.int .u64 (wd s3 0 : Nat), .int .u64 (wd s3 1 : Nat), .int .u64 (wd s3 2 : Nat), .int .u64 (wd s3 3 : Nat)] := At.at_ _ _ _ _ (by simp)
  have Nm : At (v15.alloc (.cells #[.int .u64 (wd s3 0 : Nat), .int .u64 (wd s3 1 : Nat), .int .u64 (wd s3 2 : Nat), .int .u64 (wd s3 3 : Nat)] 24)) gm 24 #[.int .u64 (wd M 0 : Nat), .int .u64 (wd M 1 : Nat), .int .u64 (wd M 2 : Nat), .int .u64 (wd M 3 : Nat)] := Fm.out.alloc _
  have Na : At (v15.alloc (.cells #[.int .u64 (wd s3 0 : Nat), .int .u64 (wd s3 1 : Nat), .int .u64 (wd s3 2 : Nat), .int .u64 (wd s3 3 : Nat)] 24)) ga 24 #[.int .u64 (wd a 0 : Nat), .int .u64 (wd a 1 : Nat), .int .u64 (wd a 2 : Nat), .int .u64 (wd a 3 : Nat)] := Fa.out.alloc _
  have Nb : At (v15.alloc (.cells #[.int .u64 (wd s3 0 : Nat), .int .u64 (wd s3 1 : Nat), .int .u64 (wd s3 2 : Nat), .int .u64 (wd s3 3 : Nat)] 24)) gb 24 #[.int .u64 (wd b 0 : Nat), .int .u64 (wd b 1 : Nat), .int .u64 (wd b 2 : Nat), .int .u64 (wd b 3 : Nat)] := Fb.out.alloc _
  have Nc : At (v15.alloc (.cells #[.int .u64 (wd s3 0 : Nat), .int .u64 (wd s3 1 : Nat), .int .u64 (wd s3 2 : Nat), .int .u64 (wd s3 3 : Nat)] 24)) gc 24 #[.int .u64 (wd c 0 : Nat), .int .u64 (wd c 1 : Nat), .int .u64 (wd c 2 : Nat), .int .u64 (wd c 3 : Nat)] := Fc.out.alloc _
  have Nab : At (v15.alloc (.cells #[.int .u64 (wd s3 0 : Nat), .int .u64 (wd s3 1 : Nat), .int .u64 (wd s3 2 : Nat), .int .u64 (wd s3 3 : Nat)] 24)) gab 24 #[.int .u64 (wd s1 0 : Nat), .int .u64 (wd s1 1 : Nat), .int .u64 (wd s1 2 : Nat), .int .u64 (wd s1 3 : Nat)] := Fab.out.alloc _
  have Nba : At (v15.alloc (.cells #[.int .u64 (wd s3 0 : Nat), .int .u64 (wd s3 1 : Nat), .int .u64 (wd s3 2 : Nat), .int .u64 (wd s3 3 : Nat)] 24)) gba 24 #[.int .u64 (wd s1 0 : Nat), .int .u64 (wd s1 1 : Nat), .int .u64 (wd s1 2 : Nat), .int .u64 (wd s1 3 : Nat)] := Fba.out.alloc _
  have Nbc : At (v15.alloc (.cells #[.int .u64 (wd s3 0 : Nat), .int .u64 (wd s3 1 : Nat), .int .u64 (wd s3 2 : Nat), .int .u64 (wd s3 3 : Nat)] 24)) gbc 24 #[.int .u64 (wd s2 0 : Nat), .int .u64 (wd s2 1 : Nat), .int .u64 (wd s2 2 : Nat), .int .u64 (wd s2 3 : Nat)] := Fbc.out.alloc _
  have NB : Below w.heap.size w (v15.alloc (.cells #[.int .u64 (wd s3 0 : Nat), .int .u64 (wd s3 1 : Nat), .int .u64 (wd s3 2 : Nat), .int .u64 (wd s3 3 : Nat)] 24)) := gr_alloc BW.out _
  clear BW Fm Fa Fb Fc Fab Fba Fbc
  generalize (v15.alloc (.cells #[.int .u64 (wd s3 0 : Nat), .int .u64 (wd s3 1 : Nat), .int .u64 (wd s3 2 : Nat), .int .u64 (wd s3 3 : Nat)] 24)) = W16 at *
  generalize v15.heap.size = gle at *
  have Fm := Lib.hid Nm
  have Fa := Lib.hid Na
  have Fb := Lib.hid Nb
  have Fc := Lib.hid Nc
  have Fab := Lib.hid Nab
  have Fba := Lib.hid Nba
  have Fbc := Lib.hid Nbc
  have Fle := Lib.hid Nle
  have BW := Lib.hid NB
  clear NB Nm Na Nb Nc Nab Nba Nbc Nle
  refine (HS5.out _).mono ?_
  rintro e v17 ⟨rfl, z17⟩
  have Nm := Lib.hid (Fm.out.on z17)
  have Na := Lib.hid (Fa.out.on z17)
  have Nb := Lib.hid (Fb.out.on z17)
  have Nc := Lib.hid (Fc.out.on z17)
  have Nab := Lib.hid (Fab.out.on z17)
  have Nba := Lib.hid (Fba.out.on z17)
  have Nbc := Lib.hid (Fbc.out.on z17)
  have Nle := Lib.hid (Fle.out.on z17)
  have NB := Lib.hid (bel_tr BW.out z17)
  clear BW z17 Fm Fa Fb Fc Fab Fba Fbc Fle
  have Fm := Nm
  have Fa := Na
  have Fb := Nb
  have Fc := Nc
  have Fab := Nab
  have Fba := Nba
  have Fbc := Nbc
  have Fle := Nle
  have BW := NB
  clear NB Nm Na Nb Nc Nab Nba Nbc Nle
  have Lab := Fab.out.lt
  have cab0 : v17.cell? ⟨gab, 0, none⟩ = some (.int .u64 (wd s1 0 : Nat)) := Fab.out.cell 0
  have cab1 : v17.cell? ⟨gab, 1, none⟩ = some (.int .u64 (wd s1 1 : Nat)) := Fab.out.cell 1
  have cab2 : v17.cell? ⟨gab, 2, none⟩ = some (.int .u64 (wd s1 2 : Nat)) := Fab.out.cell 2
  have cab3 : v17.cell? ⟨gab, 3, none⟩ = some (.int .u64 (wd s1 3 : Nat)) := Fab.out.cell 3
  have Lb := Fb.out.lt
  have cb0 : v17.cell? ⟨gb, 0, none⟩ = some (.int .u64 (wd b 0 : Nat)) := Fb.out.cell 0
  have cb1 : v17.cell? ⟨gb, 1, none⟩ = some (.int .u64 (wd b 1 : Nat)) := Fb.out.cell 1
  have cb2 : v17.cell? ⟨gb, 2, none⟩ = some (.int .u64 (wd b 2 : Nat)) := Fb.out.cell 2
  have cb3 : v17.cell? ⟨gb, 3, none⟩ = some (.int .u64 (wd b 3 : Nat)) := Fb.out.cell 3
  have Lm := Fm.out.lt
  have cm0 : v17.cell? ⟨gm, 0, none⟩ = some (.int .u64 (wd M 0 : Nat)) := Fm.out.cell 0
  have cm1 : v17.cell? ⟨gm, 1, none⟩ = some (.int .u64 (wd M 1 : Nat)) := Fm.out.cell 1
  have cm2 : v17.cell? ⟨gm, 2, none⟩ = some (.int .u64 (wd M 2 : Nat)) := Fm.out.cell 2
  have cm3 : v17.cell? ⟨gm, 3, none⟩ = some (.int .u64 (wd M 3 : Nat)) := Fm.out.cell 3
  go_wp2_with fail
  clear Lab cab0 cab1 cab2 cab3 Lb cb0 cb1 cb2 cb3 Lm cm0 cm1 cm2 cm3
  have Nri : At (v17.alloc (.cells #[.int .u64 (wd s3 0 : Nat), .int .u64 (wd s3 1 : Nat), .int .u64 (wd s3 2 : Nat), .int .u64 (wd s3 3 : Nat)] 24)) (v17.heap.size) 24 #[.int .u64 (wd s3 0 : Nat), .int .u64 (wd s3 1 : Nat), .int .u64 (wd s3 2 : Nat), .int .u64 (wd s3 3 : Nat)] := At.at_ _ _ _ _ (by simp)
  have Nm : At (v17.alloc (.cells #[.int .u64 (wd s3 0 : Nat), .int .u64 (wd s3 1 : Nat), .int .u64 (wd s3 2 : Nat), .int .u64 (wd s3 3 : Nat)] 24)) gm 24 #[.int .u64 (wd M 0 : Nat), .int .u64 (wd M 1 : Nat), .int .u64 (wd M 2 : Nat), .int .u64 (wd M 3 : Nat)] := Fm.out.alloc _
  have Na : At (v17.alloc (.cells #[.int .u64 (wd s3 0 : Nat), .int .u64 (wd s3 1 : Nat), .int .u64 (wd s3 2 : Nat), .int .u64 (wd s3 3 : Nat)] 24)) ga 24 #[.int .u64 (wd a 0 : Nat), .int .u64 (wd a 1 : Nat), .int .u64 (wd a 2 : Nat), .int .u64 (wd a 3 : Nat)] := Fa.out.alloc _
  have Nb : At (v17.alloc (.cells #[.int .u64 (wd s3 0 : Nat), .int .u64 (wd s3 1 : Nat), .int .u64 (wd s3 2 : Nat), .int .u64 (wd s3 3 : Nat)] 24)) gb 24 #[.int .u64 (wd b 0 : Nat), .int .u64 (wd b 1 : Nat), .int .u64 (wd b 2 : Nat), .int .u64 (wd b 3 : Nat)] := Fb.out.alloc _
  have Nc : At (v17.alloc (.cells #[.int .u64 (wd s3 0 : Nat), .int .u64 (wd s3 1 : Nat), .int .u64 (wd s3 2 : Nat), .int .u64 (wd s3 3 : Nat)] 24)) gc 24 #[.int .u64 (wd c 0 : Nat), .int .u64 (wd c 1 : Nat), .int .u64 (wd c 2 : Nat), .int .u64 (wd c 3 : Nat)] := Fc.out.alloc _
  have Nab : At (v17.alloc (.cells #[.int .u64 (wd s3 0 : Nat), .int .u64 (wd s3 1 : Nat), .int .u64 (wd s3 2 : Nat), .int .u64 (wd s3 3 : Nat)] 24)) gab 24 #[.int .u64 (wd s1 0 : Nat), .int .u64 (wd s1 1 : Nat), .int .u64 (wd s1 2 : Nat), .int .u64 (wd s1 3 : Nat)] := Fab.out.alloc _
  have Nba : At (v17.alloc (.cells #[.int .u64 (wd s3 0 : Nat), .int .u64 (wd s3 1 : Nat), .int .u64 (wd s3 2 : Nat), .int .u64 (wd s3 3 : Nat)] 24)) gba 24 #[.int .u64 (wd s1 0 : Nat), .int .u64 (wd s1 1 : Nat), .int .u64 (wd s1 2 : Nat), .int .u64 (wd s1 3 : Nat)] := Fba.out.alloc _
  have Nbc : At (v17.alloc (.cells #[.int .u64 (wd s3 0 : Nat), .int .u64 (wd s3 1 : Nat), .int .u64 (wd s3 2 : Nat), .int .u64 (wd s3 3 : Nat)] 24)) gbc 24 #[.int .u64 (wd s2 0 : Nat), .int .u64 (wd s2 1 : Nat), .int .u64 (wd s2 2 : Nat), .int .u64 (wd s2 3 : Nat)] := Fbc.out.alloc _
  have Nle : At (v17.alloc (.cells #[.int .u64 (wd s3 0 : Nat), .int .u64 (wd s3 1 : Nat), .int .u64 (wd s3 2 : Nat), .int .u64 (wd s3 3 : Nat)] 24)) gle 24 #[.int .u64 (wd s3 0 : Nat), .int .u64 (wd s3 1 : Nat), .int .u64 (wd s3 2 : Nat), .int .u64 (wd s3 3 : Nat)] := Fle.out.alloc _
  have NB : Below w.heap.size w (v17.alloc (.cells #[.int .u64 (wd s3 0 : Nat), .int .u64 (wd s3 1 : Nat), .int .u64 (wd s3 2 : Nat), .int .u64 (wd s3 3 : Nat)] 24)) := gr_alloc BW.out _
  clear BW Fm Fa Fb Fc Fab Fba Fbc Fle
  generalize (v17.alloc (.cells #[.int .u64 (wd s3 0 : Nat), .int .u64 (wd s3 1 : Nat), .int .u64 (wd s3 2 : Nat), .int .u64 (wd s3 3 : Nat)] 24)) = W18 at *
  generalize v17.heap.size = gri at *
  have Fm := Lib.hid Nm
  have Fa := Lib.hid Na
  have Fb := Lib.hid Nb
  have Fc := Lib.hid Nc
  have Fab := Lib.hid Nab
  have Fba := Lib.hid Nba
  have Fbc := Lib.hid Nbc
  have Fle := Lib.hid Nle
  have Fri := Lib.hid Nri
  have BW := Lib.hid NB
  clear NB Nm Na Nb Nc Nab Nba Nbc Nle Nri
  refine (HS6.out _).mono ?_
  rintro e v19 ⟨rfl, z19⟩
  have Nm := Lib.hid (Fm.out.on z19)
  have Na := Lib.hid (Fa.out.on z19)
  have Nb := Lib.hid (Fb.out.on z19)
  have Nc := Lib.hid (Fc.out.on z19)
  have Nab := Lib.hid (Fab.out.on z19)
  have Nba := Lib.hid (Fba.out.on z19)
  have Nbc := Lib.hid (Fbc.out.on z19)
  have Nle := Lib.hid (Fle.out.on z19)
  have Nri := Lib.hid (Fri.out.on z19)
  have NB := Lib.hid (bel_tr BW.out z19)
  clear BW z19 Fm Fa Fb Fc Fab Fba Fbc Fle Fri
  have Fm := Nm
  have Fa := Na
  have Fb := Nb
  have Fc := Nc
  have Fab := Nab
  have Fba := Nba
  have Fbc := Nbc
  have Fle := Nle
  have Fri := Nri
  have BW := NB
  clear NB Nm Na Nb Nc Nab Nba Nbc Nle Nri
  have Lab := Fab.out.lt
  have cab0 : v19.cell? ⟨gab, 0, none⟩ = some (.int .u64 (wd s1 0 : Nat)) := Fab.out.cell 0
  have cab1 : v19.cell? ⟨gab, 1, none⟩ = some (.int .u64 (wd s1 1 : Nat)) := Fab.out.cell 1
  have cab2 : v19.cell? ⟨gab, 2, none⟩ = some (.int .u64 (wd s1 2 : Nat)) := Fab.out.cell 2
  have cab3 : v19.cell? ⟨gab, 3, none⟩ = some (.int .u64 (wd s1 3 : Nat)) := Fab.out.cell 3
  have Lba := Fba.out.lt
  have cba0 : v19.cell? ⟨gba, 0, none⟩ = some (.int .u64 (wd s1 0 : Nat)) := Fba.out.cell 0
  have cba1 : v19.cell? ⟨gba, 1, none⟩ = some (.int .u64 (wd s1 1 : Nat)) := Fba.out.cell 1
  have cba2 : v19.cell? ⟨gba, 2, none⟩ = some (.int .u64 (wd s1 2 : Nat)) := Fba.out.cell 2
  have cba3 : v19.cell? ⟨gba, 3, none⟩ = some (.int .u64 (wd s1 3 : Nat)) := Fba.out.cell 3
  have Lle := Fle.out.lt
  have cle0 : v19.cell? ⟨gle, 0, none⟩ = some (.int .u64 (wd s3 0 : Nat)) := Fle.out.cell 0
  have cle1 : v19.cell? ⟨gle, 1, none⟩ = some (.int .u64 (wd s3 1 : Nat)) := Fle.out.cell 1
  have cle2 : v19.cell? ⟨gle, 2, none⟩ = some (.int .u64 (wd s3 2 : Nat)) := Fle.out.cell 2
  have cle3 : v19.cell? ⟨gle, 3, none⟩ = some (.int .u64 (wd s3 3 : Nat)) := Fle.out.cell 3
  have Lri := Fri.out.lt
  have cri0 : v19.cell? ⟨gri, 0, none⟩ = some (.int .u64 (wd s3 0 : Nat)) := Fri.out.cell 0
  have cri1 : v19.cell? ⟨gri, 1, none⟩ = some (.int .u64 (wd s3 1 : Nat)) := Fri.out.cell 1
  have cri2 : v19.cell? ⟨gri, 2, none⟩ = some (.int .u64 (wd s3 2 : Nat)) := Fri.out.cell 2
  have cri3 : v19.cell? ⟨gri, 3, none⟩ = some (.int .u64 (wd s3 3 : Nat)) := Fri.out.cell 3
  have La := Fa.out.lt
  have ca0 : v19.cell? ⟨ga, 0, none⟩ = some (.int .u64 (wd a 0 : Nat)) := Fa.out.cell 0
  have ca1 : v19.cell? ⟨ga, 1, none⟩ = some (.int .u64 (wd a 1 : Nat)) := Fa.out.cell 1
  have ca2 : v19.cell? ⟨ga, 2, none⟩ = some (.int .u64 (wd a 2 : Nat)) := Fa.out.cell 2
  have ca3 : v19.cell? ⟨ga, 3, none⟩ = some (.int .u64 (wd a 3 : Nat)) := Fa.out.cell 3
  have Lb := Fb.out.lt
  have cb0 : v19.cell? ⟨gb, 0, none⟩ = some (.int .u64 (wd b 0 : Nat)) := Fb.out.cell 0
  have cb1 : v19.cell? ⟨gb, 1, none⟩ = some (.int .u64 (wd b 1 : Nat)) := Fb.out.cell 1
  have cb2 : v19.cell? ⟨gb, 2, none⟩ = some (.int .u64 (wd b 2 : Nat)) := Fb.out.cell 2
  have cb3 : v19.cell? ⟨gb, 3, none⟩ = some (.int .u64 (wd b 3 : Nat)) := Fb.out.cell 3
  have Lm := Fm.out.lt
  have cm0 : v19.cell? ⟨gm, 0, none⟩ = some (.int .u64 (wd M 0 : Nat)) := Fm.out.cell 0
  have cm1 : v19.cell? ⟨gm, 1, none⟩ = some (.int .u64 (wd M 1 : Nat)) := Fm.out.cell 1
  have cm2 : v19.cell? ⟨gm, 2, none⟩ = some (.int .u64 (wd M 2 : Nat)) := Fm.out.cell 2
  have cm3 : v19.cell? ⟨gm, 3, none⟩ = some (.int .u64 (wd M 3 : Nat)) := Fm.out.cell 3
  have qqs1 := eqY s1
  have qqs3 := eqY s3
  have qqa := eqY a
  go_wp2_with fail
  clear Lab cab0 cab1 cab2 cab3 Lba cba0 cba1 cba2 cba3 Lle cle0 cle1 cle2 cle3 Lri cri0 cri1 cri2 cri3 La ca0 ca1 ca2 ca3 Lb cb0 cb1 cb2 cb3 Lm cm0 cm1 cm2 cm3
  clear qqs1 qqs3 qqa
  have Nbk : At (v19.alloc (.cells #[.int .u64 (wd a 0 : Nat), .int .u64 (wd a 1 : Nat), .int .u64 (wd a 2 : Nat), .int .u64 (wd a 3 : Nat)] 24)) (v19.heap.size) 24 #[.int .u64 (wd a 0 : Nat), .int .u64 (wd a 1 : Nat), .int .u64 (wd a 2 : Nat), .int .u64 (wd a 3 : Nat)] := At.at_ _ _ _ _ (by simp)
  have Nm : At (v19.alloc (.cells #[.int .u64 (wd a 0 : Nat), .int .u64 (wd a 1 : Nat), .int .u64 (wd a 2 : Nat), .int .u64 (wd a 3 : Nat)] 24)) gm 24 #[.int .u64 (wd M 0 : Nat), .int .u64 (wd M 1 : Nat), .int .u64 (wd M 2 : Nat), .int .u64 (wd M 3 : Nat)] := Fm.out.alloc _
  have Na : At (v19.alloc (.cells #[.int .u64 (wd a 0 : Nat), .int .u64 (wd a 1 : Nat), .int .u64 (wd a 2 : Nat), .int .u64 (wd a 3 : Nat)] 24)) ga 24 #[.int .u64 (wd a 0 : Nat), .int .u64 (wd a 1 : Nat), .int .u64 (wd a 2 : Nat), .int .u64 (wd a 3 : Nat)] := Fa.out.alloc _
  have Nb : At (v19.alloc (.cells #[.int .u64 (wd a 0 : Nat), .int .u64 (wd a 1 : Nat), .int .u64 (wd a 2 : Nat), .int .u64 (wd a 3 : Nat)] 24)) gb 24 #[.int .u64 (wd b 0 : Nat), .int .u64 (wd b 1 : Nat), .int .u64 (wd b 2 : Nat), .int .u64 (wd b 3 : Nat)] := Fb.out.alloc _
  have Nc : At (v19.alloc (.cells #[.int .u64 (wd a 0 : Nat), .int .u64 (wd a 1 : Nat), .int .u64 (wd a 2 : Nat), .int .u64 (wd a 3 : Nat)] 24)) gc 24 #[.int .u64 (wd c 0 : Nat), .int .u64 (wd c 1 : Nat), .int .u64 (wd c 2 : Nat), .int .u64 (wd c 3 : Nat)] := Fc.out.alloc _
  have Nab : At (v19.alloc (.cells #[.int .u64 (wd a 0 : Nat), .int .u64 (wd a 1 : Nat), .int .u64 (wd a 2 : Nat), .int .u64 (wd a 3 : Nat)] 24)) gab 24 #[.int .u64 (wd s1 0 : Nat), .int .u64 (wd s1 1 : Nat), .int .u64 (wd s1 2 : Nat), .int .u64 (wd s1 3 : Nat)] := Fab.out.alloc _
  have Nba : At (v19.alloc (.cells #[.int .u64 (wd a 0 : Nat), .int .u64 (wd a 1 : Nat), .int .u64 (wd a 2 : Nat), .int .u64 (wd a 3 : Nat)] 24)) gba 24 #[.int .u64 (wd s1 0 : Nat), .int .u64 (wd s1 1 : Nat), .int .u64 (wd s1 2 : Nat), .int .u64 (wd s1 3 : Nat)] := Fba.out.alloc _
  have Nbc : At (v19.alloc (.cells #[.int .u64 (wd a 0 : Nat), .int .u64 (wd a 1 : Nat), .int .u64 (wd a 2 : Nat), .int .u64 (wd a 3 : Nat)] 24)) gbc 24 #[.int .u64 (wd s2 0 : Nat), .int .u64 (wd s2 1 : Nat), .int .u64 (wd s2 2 : Nat), .int .u64 (wd s2 3 : Nat)] := Fbc.out.alloc _
  have Nle : At (v19.alloc (.cells #[.int .u64 (wd a 0 : Nat), .int .u64 (wd a 1 : Nat), .int .u64 (wd a 2 : Nat), .int .u64 (wd a 3 : Nat)] 24)) gle 24 #[.int .u64 (wd s3 0 : Nat), .int .u64 (wd s3 1 : Nat), .int .u64 (wd s3 2 : Nat), .int .u64 (wd s3 3 : Nat)] := Fle.out.alloc _
  have Nri : At (v19.alloc (.cells #[.int .u64 (wd a 0 : Nat), .int .u64 (wd a 1 : Nat), .int .u64 (wd a 2 : Nat), .int .u64 (wd a 3 : Nat)] 24)) gri 24 #[.int .u64 (wd s3 0 : Nat), .int .u64 (wd s3 1 : Nat), .int .u64 (wd s3 2 : Nat), .int .u64 (wd s3 3 : Nat)] := Fri.out.alloc _
  have NB : Below w.heap.size w (v19.alloc (.cells #[.int .u64 (wd a 0 : Nat), .int .u64 (wd a 1 : Nat), .int .u64 (wd a 2 : Nat), .int .u64 (wd a 3 : Nat)] 24)) := gr_alloc BW.out _
  clear BW Fm Fa Fb Fc Fab Fba Fbc Fle Fri
  generalize (v19.alloc (.cells #[.int .u64 (wd a 0 : Nat), .int .u64 (wd a 1 : Nat), .int .u64 (wd a 2 : Nat), .int .u64 (wd a 3 : Nat)] 24)) = W20 at *
  generalize v19.heap.size = gbk at *
  have Fm := Lib.hid Nm
  have Fa := Lib.hid Na
  have Fb := Lib.hid Nb
  have Fc := Lib.hid Nc
  have Fab := Lib.hid Nab
  have Fba := Lib.hid Nba
  have Fbc := Lib.hid Nbc
  have Fle := Lib.hid Nle
  have Fri := Lib.hid Nri
  have Fbk := Lib.hid Nbk
  have BW := Lib.hid NB
  clear NB Nm Na Nb Nc Nab Nba Nbc Nle Nri Nbk
  clear Fab
  clear Fba
  clear Fle
  clear Fri
  clear Fbk
  refine (HP1.out _).mono ?_
  rintro e v21 ⟨rfl, z21⟩
  have Nm := Lib.hid (Fm.out.on z21)
  have Na := Lib.hid (Fa.out.on z21)
  have Nb := Lib.hid (Fb.out.on z21)
  have Nc := Lib.hid (Fc.out.on z21)
  have Nbc := Lib.hid (Fbc.out.on z21)
  have NB := Lib.hid (bel_tr BW.out z21)
  clear BW z21 Fm Fa Fb Fc Fbc
  have Fm := Nm
  have Fa := Na
  have Fb := Nb
  have Fc := Nc
  have Fbc := Nbc
  have BW := NB
  clear NB Nm Na Nb Nc Nbc
  have La := Fa.out.lt
  have ca0 : v21.cell? ⟨ga, 0, none⟩ = some (.int .u64 (wd a 0 : Nat)) := Fa.out.cell 0
  have ca1 : v21.cell? ⟨ga, 1, none⟩ = some (.int .u64 (wd a 1 : Nat)) := Fa.out.cell 1
  have ca2 : v21.cell? ⟨ga, 2, none⟩ = some (.int .u64 (wd a 2 : Nat)) := Fa.out.cell 2
  have ca3 : v21.cell? ⟨ga, 3, none⟩ = some (.int .u64 (wd a 3 : Nat)) := Fa.out.cell 3
  have Lb := Fb.out.lt
  have cb0 : v21.cell? ⟨gb, 0, none⟩ = some (.int .u64 (wd b 0 : Nat)) := Fb.out.cell 0
  have cb1 : v21.cell? ⟨gb, 1, none⟩ = some (.int .u64 (wd b 1 : Nat)) := Fb.out.cell 1
  have cb2 : v21.cell? ⟨gb, 2, none⟩ = some (.int .u64 (wd b 2 : Nat)) := Fb.out.cell 2
  have cb3 : v21.cell? ⟨gb, 3, none⟩ = some (.int .u64 (wd b 3 : Nat)) := Fb.out.cell 3
  have Lm := Fm.out.lt
  have cm0 : v21.cell? ⟨gm, 0, none⟩ = some (.int .u64 (wd M 0 : Nat)) := Fm.out.cell 0
  have cm1 : v21.cell? ⟨gm, 1, none⟩ = some (.int .u64 (wd M 1 : Nat)) := Fm.out.cell 1
  have cm2 : v21.cell? ⟨gm, 2, none⟩ = some (.int .u64 (wd M 2 : Nat)) := Fm.out.cell 2
  have cm3 : v21.cell? ⟨gm, 3, none⟩ = some (.int .u64 (wd M 3 : Nat)) := Fm.out.cell 3
  go_wp2_with fail
  clear La ca0 ca1 ca2 ca3 Lb cb0 cb1 cb2 cb3 Lm cm0 cm1 cm2 cm3
  have Nx : At (v21.alloc (.cells #[.int .u64 (wd p1 0 : Nat), .int .u64 (wd p1 1 : Nat), .int .u64 (wd p1 2 : Nat), .int .u64 (wd p1 3 : Nat)] 24)) (v21.heap.size) 24 #[.int .u64 (wd p1 0 : Nat), .int .u64 (wd p1 1 : Nat), .int .u64 (wd p1 2 : Nat), .int .u64 (wd p1 3 : Nat)] := At.at_ _ _ _ _ (by simp)
  have Nm : At (v21.alloc (.cells #[.int .u64 (wd p1 0 : Nat), .int .u64 (wd p1 1 : Nat), .int .u64 (wd p1 2 : Nat), .int .u64 (wd p1 3 : Nat)] 24)) gm 24 #[.int .u64 (wd M 0 : Nat), .int .u64 (wd M 1 : Nat), .int .u64 (wd M 2 : Nat), .int .u64 (wd M 3 : Nat)] := Fm.out.alloc _
  have Na : At (v21.alloc (.cells #[.int .u64 (wd p1 0 : Nat), .int .u64 (wd p1 1 : Nat), .int .u64 (wd p1 2 : Nat), .int .u64 (wd p1 3 : Nat)] 24)) ga 24 #[.int .u64 (wd a 0 : Nat), .int .u64 (wd a 1 : Nat), .int .u64 (wd a 2 : Nat), .int .u64 (wd a 3 : Nat)] := Fa.out.alloc _
  have Nb : At (v21.alloc (.cells #[.int .u64 (wd p1 0 : Nat), .int .u64 (wd p1 1 : Nat), .int .u64 (wd p1 2 : Nat), .int .u64 (wd p1 3 : Nat)] 24)) gb 24 #[.int .u64 (wd b 0 : Nat), .int .u64 (wd b 1 : Nat), .int .u64 (wd b 2 : Nat), .int .u64 (wd b 3 : Nat)] := Fb.out.alloc _
  have Nc : At (v21.alloc (.cells #[.int .u64 (wd p1 0 : Nat), .int .u64 (wd p1 1 : Nat), .int .u64 (wd p1 2 : Nat), .int .u64 (wd p1 3 : Nat)] 24)) gc 24 #[.int .u64 (wd c 0 : Nat), .int .u64 (wd c 1 : Nat), .int .u64 (wd c 2 : Nat), .int .u64 (wd c 3 : Nat)] := Fc.out.alloc _
  have Nbc : At (v21.alloc (.cells #[.int .u64 (wd p1 0 : Nat), .int .u64 (wd p1 1 : Nat), .int .u64 (wd p1 2 : Nat), .int .u64 (wd p1 3 : Nat)] 24)) gbc 24 #[.int .u64 (wd s2 0 : Nat), .int .u64 (wd s2 1 : Nat), .int .u64 (wd s2 2 : Nat), .int .u64 (wd s2 3 : Nat)] := Fbc.out.alloc _
  have NB : Below w.heap.size w (v21.alloc (.cells #[.int .u64 (wd p1 0 : Nat), .int .u64 (wd p1 1 : Nat), .int .u64 (wd p1 2 : Nat), .int .u64 (wd p1 3 : Nat)] 24)) := gr_alloc BW.out _
  clear BW Fm Fa Fb Fc Fbc
  generalize (v21.alloc (.cells #[.int .u64 (wd p1 0 : Nat), .int .u64 (wd p1 1 : Nat), .int .u64 (wd p1 2 : Nat), .int .u64 (wd p1 3 : Nat)] 24)) = W22 at *
  generalize v21.heap.size = gx at *
  have Fm := Lib.hid Nm
  have Fa := Lib.hid Na
  have Fb := Lib.hid Nb
  have Fc := Lib.hid Nc
  have Fbc := Lib.hid Nbc
  have Fx := Lib.hid Nx
  have BW := Lib.hid NB
  clear NB Nm Na Nb Nc Nbc Nx
  refine (HP2.out _).mono ?_
  rintro e v23 ⟨rfl, z23⟩
  have Nm := Lib.hid (Fm.out.on z23)
  have Na := Lib.hid (Fa.out.on z23)
  have Nb := Lib.hid (Fb.out.on z23)
  have Nc := Lib.hid (Fc.out.on z23)
  have Nbc := Lib.hid (Fbc.out.on z23)
  have Nx := Lib.hid (Fx.out.on z23)
  have NB := Lib.hid (bel_tr BW.out z23)
  clear BW z23 Fm Fa Fb Fc Fbc Fx
  have Fm := Nm
  have Fa := Na
  have Fb := Nb
  have Fc := Nc
  have Fbc := Nbc
  have Fx := Nx
  have BW := NB
  clear NB Nm Na Nb Nc Nbc Nx
  have La := Fa.out.lt
  have ca0 : v23.cell? ⟨ga, 0, none⟩ = some (.int .u64 (wd a 0 : Nat)) := Fa.out.cell 0
  have ca1 : v23.cell? ⟨ga, 1, none⟩ = some (.int .u64 (wd a 1 : Nat)) := Fa.out.cell 1
  have ca2 : v23.cell? ⟨ga, 2, none⟩ = some (.int .u64 (wd a 2 : Nat)) := Fa.out.cell 2
  have ca3 : v23.cell? ⟨ga, 3, none⟩ = some (.int .u64 (wd a 3 : Nat)) := Fa.out.cell 3
  have Lc := Fc.out.lt
  have cc0 : v23.cell? ⟨gc, 0, none⟩ = some (.int .u64 (wd c 0 : Nat)) := Fc.out.cell 0
  have cc1 : v23.cell? ⟨gc, 1, none⟩ = some (.int .u64 (wd c 1 : Nat)) := Fc.out.cell 1
  have cc2 : v23.cell? ⟨gc, 2, none⟩ = some (.int .u64 (wd c 2 : Nat)) := Fc.out.cell 2
  have cc3 : v23.cell? ⟨gc, 3, none⟩ = some (.int .u64 (wd c 3 : Nat)) := Fc.out.cell 3
  have Lm := Fm.out.lt
  have cm0 : v23.cell? ⟨gm, 0, none⟩ = some (.int .u64 (wd M 0 : Nat)) := Fm.out.cell 0
  have cm1 : v23.cell? ⟨gm, 1, none⟩ = some (.int .u64 (wd M 1 : Nat)) := Fm.out.cell 1
  have cm2 : v23.cell? ⟨gm, 2, none⟩ = some (.int .u64 (wd M 2 : Nat)) := Fm.out.cell 2
  have cm3 : v23.cell? ⟨gm, 3, none⟩ = some (.int .u64 (wd M 3 : Nat)) := Fm.out.cell 3
  go_wp2_with fail
  clear La ca0 ca1 ca2 ca3 Lc cc0 cc1 cc2 cc3 Lm cm0 cm1 cm2 cm3
  have Ny : At (v23.alloc (.cells #[.int .u64 (wd p1 0 : Nat), .int .u64 (wd p1 1 : Nat), .int .u64 (wd p1 2 : Nat), .int .u64 (wd p1 3 : Nat)] 24)) (v23.heap.size) 24 #[.int .u64 (wd p1 0 : Nat), .int .u64 (wd p1 1 : Nat), .int .u64 (wd p1 2 : Nat), .int .u64 (wd p1 3 : Nat)] := At.at_ _ _ _ _ (by simp)
  have Nm : At (v23.alloc (.cells #[.int .u64 (wd p1 0 : Nat), .int .u64 (wd p1 1 : Nat), .int .u64 (wd p1 2 : Nat), .int .u64 (wd p1 3 : Nat)] 24)) gm 24 #[.int .u64 (wd M 0 : Nat), .int .u64 (wd M 1 : Nat), .int .u64 (wd M 2 : Nat), .int .u64 (wd M 3 : Nat)] := Fm.out.alloc _
  have Na : At (v23.alloc (.cells #[.int .u64 (wd p1 0 : Nat), .int .u64 (wd p1 1 : Nat), .int .u64 (wd p1 2 : Nat), .int .u64 (wd p1 3 : Nat)] 24)) ga 24 #[.int .u64 (wd a 0 : Nat), .int .u64 (wd a 1 : Nat), .int .u64 (wd a 2 : Nat), .int .u64 (wd a 3 : Nat)] := Fa.out.alloc _
  have Nb : At (v23.alloc (.cells #[.int .u64 (wd p1 0 : Nat), .int .u64 (wd p1 1 : Nat), .int .u64 (wd p1 2 : Nat), .int .u64 (wd p1 3 : Nat)] 24)) gb 24 #[.int .u64 (wd b 0 : Nat), .int .u64 (wd b 1 : Nat), .int .u64 (wd b 2 : Nat), .int .u64 (wd b 3 : Nat)] := Fb.out.alloc _
  have Nc : At (v23.alloc (.cells #[.int .u64 (wd p1 0 : Nat), .int .u64 (wd p1 1 : Nat), .int .u64 (wd p1 2 : Nat), .int .u64 (wd p1 3 : Nat)] 24)) gc 24 #[.int .u64 (wd c 0 : Nat), .int .u64 (wd c 1 : Nat), .int .u64 (wd c 2 : Nat), .int .u64 (wd c 3 : Nat)] := Fc.out.alloc _
  have Nbc : At (v23.alloc (.cells #[.int .u64 (wd p1 0 : Nat), .int .u64 (wd p1 1 : Nat), .int .u64 (wd p1 2 : Nat), .int .u64 (wd p1 3 : Nat)] 24)) gbc 24 #[.int .u64 (wd s2 0 : Nat), .int .u64 (wd s2 1 : Nat), .int .u64 (wd s2 2 : Nat), .int .u64 (wd s2 3 : Nat)] := Fbc.out.alloc _
  have Nx : At (v23.alloc (.cells #[.int .u64 (wd p1 0 : Nat), .int .u64 (wd p1 1 : Nat), .int .u64 (wd p1 2 : Nat), .int .u64 (wd p1 3 : Nat)] 24)) gx 24 #[.int .u64 (wd p1 0 : Nat), .int .u64 (wd p1 1 : Nat), .int .u64 (wd p1 2 : Nat), .int .u64 (wd p1 3 : Nat)] := Fx.out.alloc _
  have NB : Below w.heap.size w (v23.alloc (.cells #[.int .u64 (wd p1 0 : Nat), .int .u64 (wd p1 1 : Nat), .int .u64 (wd p1 2 : Nat), .int .u64 (wd p1 3 : Nat)] 24)) := gr_alloc BW.out _
  clear BW Fm Fa Fb Fc Fbc Fx
  generalize (v23.alloc (.cells #[.int .u64 (wd p1 0 : Nat), .int .u64 (wd p1 1 : Nat), .int .u64 (wd p1 2 : Nat), .int .u64 (wd p1 3 : Nat)] 24)) = W24 at *
  generalize v23.heap.size = gy at *
  have Fm := Lib.hid Nm
  have Fa := Lib.hid Na
  have Fb := Lib.hid Nb
  have Fc := Lib.hid Nc
  have Fbc := Lib.hid Nbc
  have Fx := Lib.hid Nx
  have Fy := Lib.hid Ny
  have BW := Lib.hid NB
  clear NB Nm Na Nb Nc Nbc Nx Ny
  refine (HP3.out _).mono ?_
  rintro e v25 ⟨rfl, z25⟩
  have Nm := Lib.hid (Fm.out.on z25)
  have Na := Lib.hid (Fa.out.on z25)
  have Nb := Lib.hid (Fb.out.on z25)
  have Nc := Lib.hid (Fc.out.on z25)
  have Nbc := Lib.hid (Fbc.out.on z25)
  have Nx := Lib.hid (Fx.out.on z25)
  have Ny := Lib.hid (Fy.out.on z25)
  have NB := Lib.hid (bel_tr BW.out z25)
  clear BW z25 Fm Fa Fb Fc Fbc Fx Fy
  have Fm := Nm
  have Fa := Na
  have Fb := Nb
  have Fc := Nc
  have Fbc := Nbc
  have Fx := Nx
  have Fy := Ny
  have BW := NB
  clear NB Nm Na Nb Nc Nbc Nx Ny
  have La := Fa.out.lt
  have ca0 : v25.cell? ⟨ga, 0, none⟩ = some (.int .u64 (wd a 0 : Nat)) := Fa.out.cell 0
  have ca1 : v25.cell? ⟨ga, 1, none⟩ = some (.int .u64 (wd a 1 : Nat)) := Fa.out.cell 1
  have ca2 : v25.cell? ⟨ga, 2, none⟩ = some (.int .u64 (wd a 2 : Nat)) := Fa.out.cell 2
  have ca3 : v25.cell? ⟨ga, 3, none⟩ = some (.int .u64 (wd a 3 : Nat)) := Fa.out.cell 3
  have Lbc := Fbc.out.lt
  have cbc0 : v25.cell? ⟨gbc, 0, none⟩ = some (.int .u64 (wd s2 0 : Nat)) := Fbc.out.cell 0
  have cbc1 : v25.cell? ⟨gbc, 1, none⟩ = some (.int .u64 (wd s2 1 : Nat)) := Fbc.out.cell 1
  have cbc2 : v25.cell? ⟨gbc, 2, none⟩ = some (.int .u64 (wd s2 2 : Nat)) := Fbc.out.cell 2
  have cbc3 : v25.cell? ⟨gbc, 3, none⟩ = some (.int .u64 (wd s2 3 : Nat)) := Fbc.out.cell 3
  have Lm := Fm.out.lt
  have cm0 : v25.cell? ⟨gm, 0, none⟩ = some (.int .u64 (wd M 0 : Nat)) := Fm.out.cell 0
  have cm1 : v25.cell? ⟨gm, 1, none⟩ = some (.int .u64 (wd M 1 : Nat)) := Fm.out.cell 1
  have cm2 : v25.cell? ⟨gm, 2, none⟩ = some (.int .u64 (wd M 2 : Nat)) := Fm.out.cell 2
  have cm3 : v25.cell? ⟨gm, 3, none⟩ = some (.int .u64 (wd M 3 : Nat)) := Fm.out.cell 3
  go_wp2_with fail
  clear La ca0 ca1 ca2 ca3 Lbc cbc0 cbc1 cbc2 cbc3 Lm cm0 cm1 cm2 cm3
  have Nz : At (v25.alloc (.cells #[.int .u64 (wd p2 0 : Nat), .int .u64 (wd p2 1 : Nat), .int .u64 (wd p2 2 : Nat), .int .u64 (wd p2 3 : Nat)] 24)) (v25.heap.size) 24 #[.int .u64 (wd p2 0 : Nat), .int .u64 (wd p2 1 : Nat), .int .u64 (wd p2 2 : Nat), .int .u64 (wd p2 3 : Nat)] := At.at_ _ _ _ _ (by simp)
  have Nm : At (v25.alloc (.cells #[.int .u64 (wd p2 0 : Nat), .int .u64 (wd p2 1 : Nat), .int .u64 (wd p2 2 : Nat), .int .u64 (wd p2 3 : Nat)] 24)) gm 24 #[.int .u64 (wd M 0 : Nat), .int .u64 (wd M 1 : Nat), .int .u64 (wd M 2 : Nat), .int .u64 (wd M 3 : Nat)] := Fm.out.alloc _
  have Na : At (v25.alloc (.cells #[.int .u64 (wd p2 0 : Nat), .int .u64 (wd p2 1 : Nat), .int .u64 (wd p2 2 : Nat), .int .u64 (wd p2 3 : Nat)] 24)) ga 24 #[.int .u64 (wd a 0 : Nat), .int .u64 (wd a 1 : Nat), .int .u64 (wd a 2 : Nat), .int .u64 (wd a 3 : Nat)] := Fa.out.alloc _
  have Nb : At (v25.alloc (.cells #[.int .u64 (wd p2 0 : Nat), .int .u64 (wd p2 1 : Nat), .int .u64 (wd p2 2 : Nat), .int .u64 (wd p2 3 : Nat)] 24)) gb 24 #[.int .u64 (wd b 0 : Nat), .int .u64 (wd b 1 : Nat), .int .u64 (wd b 2 : Nat), .int .u64 (wd b 3 : Nat)] := Fb.out.alloc _
  have Nc : At (v25.alloc (.cells #[.int .u64 (wd p2 0 : Nat), .int .u64 (wd p2 1 : Nat), .int .u64 (wd p2 2 : Nat), .int .u64 (wd p2 3 : Nat)] 24)) gc 24 #[.int .u64 (wd c 0 : Nat), .int .u64 (wd c 1 : Nat), .int .u64 (wd c 2 : Nat), .int .u64 (wd c 3 : Nat)] := Fc.out.alloc _
  have Nbc : At (v25.alloc (.cells #[.int .u64 (wd p2 0 : Nat), .int .u64 (wd p2 1 : Nat), .int .u64 (wd p2 2 : Nat), .int .u64 (wd p2 3 : Nat)] 24)) gbc 24 #[.int .u64 (wd s2 0 : Nat), .int .u64 (wd s2 1 : Nat), .int .u64 (wd s2 2 : Nat), .int .u64 (wd s2 3 : Nat)] := Fbc.out.alloc _
  have Nx : At (v25.alloc (.cells #[.int .u64 (wd p2 0 : Nat), .int .u64 (wd p2 1 : Nat), .int .u64 (wd p2 2 : Nat), .int .u64 (wd p2 3 : Nat)] 24)) gx 24 #[.int .u64 (wd p1 0 : Nat), .int .u64 (wd p1 1 : Nat), .int .u64 (wd p1 2 : Nat), .int .u64 (wd p1 3 : Nat)] := Fx.out.alloc _
  have Ny : At (v25.alloc (.cells #[.int .u64 (wd p2 0 : Nat), .int .u64 (wd p2 1 : Nat), .int .u64 (wd p2 2 : Nat), .int .u64 (wd p2 3 : Nat)] 24)) gy 24 #[.int .u64 (wd p1 0 : Nat), .int .u64 (wd p1 1 : Nat), .int .u64 (wd p1 2 : Nat), .int .u64 (wd p1 3 : Nat)] := Fy.out.alloc _
  have NB : Below w.heap.size w (v25.alloc (.cells #[.int .u64 (wd p2 0 : Nat), .int .u64 (wd p2 1 : Nat), .int .u64 (wd p2 2 : Nat), .int .u64 (wd p2 3 : Nat)] 24)) := gr_alloc BW.out _
  clear BW Fm Fa Fb Fc Fbc Fx Fy
  generalize (v25.alloc (.cells #[.int .u64 (wd p2 0 : Nat), .int .u64 (wd p2 1 : Nat), .int .u64 (wd p2 2 : Nat), .int .u64 (wd p2 3 : Nat)] 24)) = W26 at *
  generalize v25.heap.size = gz at *
  have Fm := Lib.hid Nm
  have Fa := Lib.hid Na
  have Fb := Lib.hid Nb
  have Fc := Lib.hid Nc
  have Fbc := Lib.hid Nbc
  have Fx := Lib.hid Nx
  have Fy := Lib.hid Ny
  have Fz := Lib.hid Nz
  have BW := Lib.hid NB
  clear NB Nm Na Nb Nc Nbc Nx Ny Nz
  refine (HP4.out _).mono ?_
  rintro e v27 ⟨rfl, z27⟩
  have Nm := Lib.hid (Fm.out.on z27)
  have Na := Lib.hid (Fa.out.on z27)
  have Nb := Lib.hid (Fb.out.on z27)
  have Nc := Lib.hid (Fc.out.on z27)
  have Nbc := Lib.hid (Fbc.out.on z27)
  have Nx := Lib.hid (Fx.out.on z27)
  have Ny := Lib.hid (Fy.out.on z27)
  have Nz := Lib.hid (Fz.out.on z27)
  have NB := Lib.hid (bel_tr BW.out z27)
  clear BW z27 Fm Fa Fb Fc Fbc Fx Fy Fz
  have Fm := Nm
  have Fa := Na
  have Fb := Nb
  have Fc := Nc
  have Fbc := Nbc
  have Fx := Nx
  have Fy := Ny
  have Fz := Nz
  have BW := NB
  clear NB Nm Na Nb Nc Nbc Nx Ny Nz
  have Lx := Fx.out.lt
  have cx0 : v27.cell? ⟨gx, 0, none⟩ = some (.int .u64 (wd p1 0 : Nat)) := Fx.out.cell 0
  have cx1 : v27.cell? ⟨gx, 1, none⟩ = some (.int .u64 (wd p1 1 : Nat)) := Fx.out.cell 1
  have cx2 : v27.cell? ⟨gx, 2, none⟩ = some (.int .u64 (wd p1 2 : Nat)) := Fx.out.cell 2
  have cx3 : v27.cell? ⟨gx, 3, none⟩ = some (.int .u64 (wd p1 3 : Nat)) := Fx.out.cell 3
  have Lz := Fz.out.lt
  have cz0 : v27.cell? ⟨gz, 0, none⟩ = some (.int .u64 (wd p2 0 : Nat)) := Fz.out.cell 0
  have cz1 : v27.cell? ⟨gz, 1, none⟩ = some (.int .u64 (wd p2 1 : Nat)) := Fz.out.cell 1
  have cz2 : v27.cell? ⟨gz, 2, none⟩ = some (.int .u64 (wd p2 2 : Nat)) := Fz.out.cell 2
  have cz3 : v27.cell? ⟨gz, 3, none⟩ = some (.int .u64 (wd p2 3 : Nat)) := Fz.out.cell 3
  have Lm := Fm.out.lt
  have cm0 : v27.cell? ⟨gm, 0, none⟩ = some (.int .u64 (wd M 0 : Nat)) := Fm.out.cell 0
  have cm1 : v27.cell? ⟨gm, 1, none⟩ = some (.int .u64 (wd M 1 : Nat)) := Fm.out.cell 1
  have cm2 : v27.cell? ⟨gm, 2, none⟩ = some (.int .u64 (wd M 2 : Nat)) := Fm.out.cell 2
  have cm3 : v27.cell? ⟨gm, 3, none⟩ = some (.int .u64 (wd M 3 : Nat)) := Fm.out.cell 3
  go_wp2_with fail
  clear Lx cx0 cx1 cx2 cx3 Lz cz0 cz1 cz2 cz3 Lm cm0 cm1 cm2 cm3
  have Nu : At (v27.alloc (.cells #[.int .u64 (wd p3 0 : Nat), .int .u64 (wd p3 1 : Nat), .int .u64 (wd p3 2 : Nat), .int .u64 (wd p3 3 : Nat)] 24)) (v27.heap.size) 24 #[.int .u64 (wd p3 0 : Nat), .int .u64 (wd p3 1 : Nat), .int .u64 (wd p3 2 : Nat), .int .u64 (wd p3 3 : Nat)] := At.at_ _ _ _ _ (by simp)
  have Nm : At (v27.alloc (.cells #[.int .u64 (wd p3 0 : Nat), .int .u64 (wd p3 1 : Nat), .int .u64 (wd p3 2 : Nat), .int .u64 (wd p3 3 : Nat)] 24)) gm 24 #[.int .u64 (wd M 0 : Nat), .int .u64 (wd M 1 : Nat), .int .u64 (wd M 2 : Nat), .int .u64 (wd M 3 : Nat)] := Fm.out.alloc _
  have Na : At (v27.alloc (.cells #[.int .u64 (wd p3 0 : Nat), .int .u64 (wd p3 1 : Nat), .int .u64 (wd p3 2 : Nat), .int .u64 (wd p3 3 : Nat)] 24)) ga 24 #[.int .u64 (wd a 0 : Nat), .int .u64 (wd a 1 : Nat), .int .u64 (wd a 2 : Nat), .int .u64 (wd a 3 : Nat)] := Fa.out.alloc _
  have Nb : At (v27.alloc (.cells #[.int .u64 (wd p3 0 : Nat), .int .u64 (wd p3 1 : Nat), .int .u64 (wd p3 2 : Nat), .int .u64 (wd p3 3 : Nat)] 24)) gb 24 #[.int .u64 (wd b 0 : Nat), .int .u64 (wd b 1 : Nat), .int .u64 (wd b 2 : Nat), .int .u64 (wd b 3 : Nat)] := Fb.out.alloc _
  have Nc : At (v27.alloc (.cells #[.int .u64 (wd p3 0 : Nat), .int .u64 (wd p3 1 : Nat), .int .u64 (wd p3 2 : Nat), .int .u64 (wd p3 3 : Nat)] 24)) gc 24 #[.int .u64 (wd c 0 : Nat), .int .u64 (wd c 1 : Nat), .int .u64 (wd c 2 : Nat), .int .u64 (wd c 3 : Nat)] := Fc.out.alloc _
  have Nbc : At (v27.alloc (.cells #[.int .u64 (wd p3 0 : Nat), .int .u64 (wd p3 1 : Nat), .int .u64 (wd p3 2 : Nat), .int .u64 (wd p3 3 : Nat)] 24)) gbc 24 #[.int .u64 (wd s2 0 : Nat), .int .u64 (wd s2 1 : Nat), .int .u64 (wd s2 2 : Nat), .int .u64 (wd s2 3 : Nat)] := Fbc.out.alloc _
  have Nx : At (v27.alloc (.cells #[.int .u64 (wd p3 0 : Nat), .int .u64 (wd p3 1 : Nat), .int .u64 (wd p3 2 : Nat), .int .u64 (wd p3 3 : Nat)] 24)) gx 24 #[.int .u64 (wd p1 0 : Nat), .int .u64 (wd p1 1 : Nat), .int .u64 (wd p1 2 : Nat), .int .u64 (wd p1 3 : Nat)] := Fx.out.alloc _
  have Ny : At (v27.alloc (.cells #[.int .u64 (wd p3 0 : Nat), .int .u64 (wd p3 1 : Nat), .int .u64 (wd p3 2 : Nat), .int .u64 (wd p3 3 : Nat)] 24)) gy 24 #[.int .u64 (wd p1 0 : Nat), .int .u64 (wd p1 1 : Nat), .int .u64 (wd p1 2 : Nat), .int .u64 (wd p1 3 : Nat)] := Fy.out.alloc _
  have Nz : At (v27.alloc (.cells #[.int .u64 (wd p3 0 : Nat), .int .u64 (wd p3 1 : Nat), .int .u64 (wd p3 2 : Nat), .int .u64 (wd p3 3 : Nat)] 24)) gz 24 #[.int .u64 (wd p2 0 : Nat), .int .u64 (wd p2 1 : Nat), .int .u64 (wd p2 2 : Nat), .int .u64 (wd p2 3 : Nat)] := Fz.out.alloc _
  have NB : Below w.heap.size w (v27.alloc (.cells #[.int .u64 (wd p3 0 : Nat), .int .u64 (wd p3 1 : Nat), .int .u64 (wd p3 2 : Nat), .int .u64 (wd p3 3 : Nat)] 24)) := gr_alloc BW.out _
  clear BW Fm Fa Fb Fc Fbc Fx Fy Fz
  generalize (v27.alloc (.cells #[.int .u64 (wd p3 0 : Nat), .int .u64 (wd p3 1 : Nat), .int .u64 (wd p3 2 : Nat), .int .u64 (wd p3 3 : Nat)] 24)) = W28 at *
  generalize v27.heap.size = gu at *
  have Fm := Lib.hid Nm
  have Fa := Lib.hid Na
  have Fb := Lib.hid Nb
  have Fc := Lib.hid Nc
  have Fbc := Lib.hid Nbc
  have Fx := Lib.hid Nx
  have Fy := Lib.hid Ny
  have Fz := Lib.hid Nz
  have Fu := Lib.hid Nu
  have BW := Lib.hid NB
  clear NB Nm Na Nb Nc Nbc Nx Ny Nz Nu
  refine (HP5.out _).mono ?_
  rintro e v29 ⟨rfl, z29⟩
  have Nm := Lib.hid (Fm.out.on z29)
  have Na := Lib.hid (Fa.out.on z29)
  have Nb := Lib.hid (Fb.out.on z29)
  have Nc := Lib.hid (Fc.out.on z29)
  have Nbc := Lib.hid (Fbc.out.on z29)
  have Nx := Lib.hid (Fx.out.on z29)
  have Ny := Lib.hid (Fy.out.on z29)
  have Nz := Lib.hid (Fz.out.on z29)
  have Nu := Lib.hid (Fu.out.on z29)
  have NB := Lib.hid (bel_tr BW.out z29)
  clear BW z29 Fm Fa Fb Fc Fbc Fx Fy Fz Fu
  have Fm := Nm
  have Fa := Na
  have Fb := Nb
  have Fc := Nc
  have Fbc := Nbc
  have Fx := Nx
  have Fy := Ny
  have Fz := Nz
  have Fu := Nu
  have BW := NB
  clear NB Nm Na Nb Nc Nbc Nx Ny Nz Nu
  have Lx := Fx.out.lt
  have cx0 : v29.cell? ⟨gx, 0, none⟩ = some (.int .u64 (wd p1 0 : Nat)) := Fx.out.cell 0
  have cx1 : v29.cell? ⟨gx, 1, none⟩ = some (.int .u64 (wd p1 1 : Nat)) := Fx.out.cell 1
  have cx2 : v29.cell? ⟨gx, 2, none⟩ = some (.int .u64 (wd p1 2 : Nat)) := Fx.out.cell 2
  have cx3 : v29.cell? ⟨gx, 3, none⟩ = some (.int .u64 (wd p1 3 : Nat)) := Fx.out.cell 3
  have Lc := Fc.out.lt
  have cc0 : v29.cell? ⟨gc, 0, none⟩ = some (.int .u64 (wd c 0 : Nat)) := Fc.out.cell 0
  have cc1 : v29.cell? ⟨gc, 1, none⟩ = some (.int .u64 (wd c 1 : Nat)) := Fc.out.cell 1
  have cc2 : v29.cell? ⟨gc, 2, none⟩ = some (.int .u64 (wd c 2 : Nat)) := Fc.out.cell 2
  have cc3 : v29.cell? ⟨gc, 3, none⟩ = some (.int .u64 (wd c 3 : Nat)) := Fc.out.cell 3
  have Lm := Fm.out.lt
  have cm0 : v29.cell? ⟨gm, 0, none⟩ = some (.int .u64 (wd M 0 : Nat)) := Fm.out.cell 0
  have cm1 : v29.cell? ⟨gm, 1, none⟩ = some (.int .u64 (wd M 1 : Nat)) := Fm.out.cell 1
  have cm2 : v29.cell? ⟨gm, 2, none⟩ = some (.int .u64 (wd M 2 : Nat)) := Fm.out.cell 2
  have cm3 : v29.cell? ⟨gm, 3, none⟩ = some (.int .u64 (wd M 3 : Nat)) := Fm.out.cell 3
  go_wp2_with fail
  clear Lx cx0 cx1 cx2 cx3 Lc cc0 cc1 cc2 cc3 Lm cm0 cm1 cm2 cm3
  have Nsu : At (v29.alloc (.cells #[.int .u64 (wd p3 0 : Nat), .int .u64 (wd p3 1 : Nat), .int .u64 (wd p3 2 : Nat), .int .u64 (wd p3 3 : Nat)] 24)) (v29.heap.size) 24 #[.int .u64 (wd p3 0 : Nat), .int .u64 (wd p3 1 : Nat), .int .u64 (wd p3 2 : Nat), .int .u64 (wd p3 3 : Nat)] := At.at_ _ _ _ _ (by simp)
  have Nm : At (v29.alloc (.cells #[.int .u64 (wd p3 0 : Nat), .int .u64 (wd p3 1 : Nat), .int .u64 (wd p3 2 : Nat), .int .u64 (wd p3 3 : Nat)] 24)) gm 24 #[.int .u64 (wd M 0 : Nat), .int .u64 (wd M 1 : Nat), .int .u64 (wd M 2 : Nat), .int .u64 (wd M 3 : Nat)] := Fm.out.alloc _
  have Na : At (v29.alloc (.cells #[.int .u64 (wd p3 0 : Nat), .int .u64 (wd p3 1 : Nat), .int .u64 (wd p3 2 : Nat), .int .u64 (wd p3 3 : Nat)] 24)) ga 24 #[.int .u64 (wd a 0 : Nat), .int .u64 (wd a 1 : Nat), .int .u64 (wd a 2 : Nat), .int .u64 (wd a 3 : Nat)] := Fa.out.alloc _
  have Nb : At (v29.alloc (.cells #[.int .u64 (wd p3 0 : Nat), .int .u64 (wd p3 1 : Nat), .int .u64 (wd p3 2 : Nat), .int .u64 (wd p3 3 : Nat)] 24)) gb 24 #[.int .u64 (wd b 0 : Nat), .int .u64 (wd b 1 : Nat), .int .u64 (wd b 2 : Nat), .int .u64 (wd b 3 : Nat)] := Fb.out.alloc _
  have Nc : At (v29.alloc (.cells #[.int .u64 (wd p3 0 : Nat), .int .u64 (wd p3 1 : Nat), .int .u64 (wd p3 2 : Nat), .int .u64 (wd p3 3 : Nat)] 24)) gc 24 #[.int .u64 (wd c 0 : Nat), .int .u64 (wd c 1 : Nat), .int .u64 (wd c 2 : Nat), .int .u64 (wd c 3 : Nat)] := Fc.out.alloc _
  have Nbc : At (v29.alloc (.cells #[.int .u64 (wd p3 0 : Nat), .int .u64 (wd p3 1 : Nat), .int .u64 (wd p3 2 : Nat), .int .u64 (wd p3 3 : Nat)] 24)) gbc 24 #[.int .u64 (wd s2 0 : Nat), .int .u64 (wd s2 1 : Nat), .int .u64 (wd s2 2 : Nat), .int .u64 (wd s2 3 : Nat)] := Fbc.out.alloc _
  have Nx : At (v29.alloc (.cells #[.int .u64 (wd p3 0 : Nat), .int .u64 (wd p3 1 : Nat), .int .u64 (wd p3 2 : Nat), .int .u64 (wd p3 3 : Nat)] 24)) gx 24 #[.int .u64 (wd p1 0 : Nat), .int .u64 (wd p1 1 : Nat), .int .u64 (wd p1 2 : Nat), .int .u64 (wd p1 3 : Nat)] := Fx.out.alloc _
  have Ny : At (v29.alloc (.cells #[.int .u64 (wd p3 0 : Nat), .int .u64 (wd p3 1 : Nat), .int .u64 (wd p3 2 : Nat), .int .u64 (wd p3 3 : Nat)] 24)) gy 24 #[.int .u64 (wd p1 0 : Nat), .int .u64 (wd p1 1 : Nat), .int .u64 (wd p1 2 : Nat), .int .u64 (wd p1 3 : Nat)] := Fy.out.alloc _
  have Nz : At (v29.alloc (.cells #[.int .u64 (wd p3 0 : Nat), .int .u64 (wd p3 1 : Nat), .int .u64 (wd p3 2 : Nat), .int .u64 (wd p3 3 : Nat)] 24)) gz 24 #[.int .u64 (wd p2 0 : Nat), .int .u64 (wd p2 1 : Nat), .int .u64 (wd p2 2 : Nat), .int .u64 (wd p2 3 : Nat)] := Fz.out.alloc _
  have Nu : At (v29.alloc (.cells #[.int .u64 (wd p3 0 : Nat), .int .u64 (wd p3 1 : Nat), .int .u64 (wd p3 2 : Nat), .int .u64 (wd p3 3 : Nat)] 24)) gu 24 #[.int .u64 (wd p3 0 : Nat), .int .u64 (wd p3 1 : Nat), .int .u64 (wd p3 2 : Nat), .int .u64 (wd p3 3 : Nat)] := Fu.out.alloc _
  have NB : Below w.heap.size w (v29.alloc (.cells #[.int .u64 (wd p3 0 : Nat), .int .u64 (wd p3 1 : Nat), .int .u64 (wd p3 2 : Nat), .int .u64 (wd p3 3 : Nat)] 24)) := gr_alloc BW.out _
  clear BW Fm Fa Fb Fc Fbc Fx Fy Fz Fu
  generalize (v29.alloc (.cells #[.int .u64 (wd p3 0 : Nat), .int .u64 (wd p3 1 : Nat), .int .u64 (wd p3 2 : Nat), .int .u64 (wd p3 3 : Nat)] 24)) = W30 at *
  generalize v29.heap.size = gsu at *
  have Fm := Lib.hid Nm
  have Fa := Lib.hid Na
  have Fb := Lib.hid Nb
  have Fc := Lib.hid Nc
  have Fbc := Lib.hid Nbc
  have Fx := Lib.hid Nx
  have Fy := Lib.hid Ny
  have Fz := Lib.hid Nz
  have Fu := Lib.hid Nu
  have Fsu := Lib.hid Nsu
  have BW := Lib.hid NB
  clear NB Nm Na Nb Nc Nbc Nx Ny Nz Nu Nsu
  refine (HP6.out _).mono ?_
  rintro e v31 ⟨rfl, z31⟩
  have Nm := Lib.hid (Fm.out.on z31)
  have Na := Lib.hid (Fa.out.on z31)
  have Nb := Lib.hid (Fb.out.on z31)
  have Nc := Lib.hid (Fc.out.on z31)
  have Nbc := Lib.hid (Fbc.out.on z31)
  have Nx := Lib.hid (Fx.out.on z31)
  have Ny := Lib.hid (Fy.out.on z31)
  have Nz := Lib.hid (Fz.out.on z31)
  have Nu := Lib.hid (Fu.out.on z31)
  have Nsu := Lib.hid (Fsu.out.on z31)
  have NB := Lib.hid (bel_tr BW.out z31)
  clear BW z31 Fm Fa Fb Fc Fbc Fx Fy Fz Fu Fsu
  have Fm := Nm
  have Fa := Na
  have Fb := Nb
  have Fc := Nc
  have Fbc := Nbc
  have Fx := Nx
  have Fy := Ny
  have Fz := Nz
  have Fu := Nu
  have Fsu := Nsu
  have BW := NB
  clear NB Nm Na Nb Nc Nbc Nx Ny Nz Nu Nsu
  have Lb := Fb.out.lt
  have cb0 : v31.cell? ⟨gb, 0, none⟩ = some (.int .u64 (wd b 0 : Nat)) := Fb.out.cell 0
  have cb1 : v31.cell? ⟨gb, 1, none⟩ = some (.int .u64 (wd b 1 : Nat)) := Fb.out.cell 1
  have cb2 : v31.cell? ⟨gb, 2, none⟩ = some (.int .u64 (wd b 2 : Nat)) := Fb.out.cell 2
  have cb3 : v31.cell? ⟨gb, 3, none⟩ = some (.int .u64 (wd b 3 : Nat)) := Fb.out.cell 3
  have Lc := Fc.out.lt
  have cc0 : v31.cell? ⟨gc, 0, none⟩ = some (.int .u64 (wd c 0 : Nat)) := Fc.out.cell 0
  have cc1 : v31.cell? ⟨gc, 1, none⟩ = some (.int .u64 (wd c 1 : Nat)) := Fc.out.cell 1
  have cc2 : v31.cell? ⟨gc, 2, none⟩ = some (.int .u64 (wd c 2 : Nat)) := Fc.out.cell 2
  have cc3 : v31.cell? ⟨gc, 3, none⟩ = some (.int .u64 (wd c 3 : Nat)) := Fc.out.cell 3
  have Lm := Fm.out.lt
  have cm0 : v31.cell? ⟨gm, 0, none⟩ = some (.int .u64 (wd M 0 : Nat)) := Fm.out.cell 0
  have cm1 : v31.cell? ⟨gm, 1, none⟩ = some (.int .u64 (wd M 1 : Nat)) := Fm.out.cell 1
  have cm2 : v31.cell? ⟨gm, 2, none⟩ = some (.int .u64 (wd M 2 : Nat)) := Fm.out.cell 2
  have cm3 : v31.cell? ⟨gm, 3, none⟩ = some (.int .u64 (wd M 3 : Nat)) := Fm.out.cell 3
  go_wp2_with fail
  clear Lb cb0 cb1 cb2 cb3 Lc cc0 cc1 cc2 cc3 Lm cm0 cm1 cm2 cm3
  have Nxc : At (v31.alloc (.cells #[.int .u64 (wd p4 0 : Nat), .int .u64 (wd p4 1 : Nat), .int .u64 (wd p4 2 : Nat), .int .u64 (wd p4 3 : Nat)] 24)) (v31.heap.size) 24 #[.int .u64 (wd p4 0 : Nat), .int .u64 (wd p4 1 : Nat), .int .u64 (wd p4 2 : Nat), .int .u64 (wd p4 3 : Nat)] := At.at_ _ _ _ _ (by simp)
  have Nm : At (v31.alloc (.cells #[.int .u64 (wd p4 0 : Nat), .int .u64 (wd p4 1 : Nat), .int .u64 (wd p4 2 : Nat), .int .u64 (wd p4 3 : Nat)] 24)) gm 24 #[.int .u64 (wd M 0 : Nat), .int .u64 (wd M 1 : Nat), .int .u64 (wd M 2 : Nat), .int .u64 (wd M 3 : Nat)] := Fm.out.alloc _
  have Na : At (v31.alloc (.cells #[.int .u64 (wd p4 0 : Nat), .int .u64 (wd p4 1 : Nat), .int .u64 (wd p4 2 : Nat), .int .u64 (wd p4 3 : Nat)] 24)) ga 24 #[.int .u64 (wd a 0 : Nat), .int .u64 (wd a 1 : Nat), .int .u64 (wd a 2 : Nat), .int .u64 (wd a 3 : Nat)] := Fa.out.alloc _
  have Nb : At (v31.alloc (.cells #[.int .u64 (wd p4 0 : Nat), .int .u64 (wd p4 1 : Nat), .int .u64 (wd p4 2 : Nat), .int .u64 (wd p4 3 : Nat)] 24)) gb 24 #[.int .u64 (wd b 0 : Nat), .int .u64 (wd b 1 : Nat), .int .u64 (wd b 2 : Nat), .int .u64 (wd b 3 : Nat)] := Fb.out.alloc _
  have Nc : At (v31.alloc (.cells #[.int .u64 (wd p4 0 : Nat), .int .u64 (wd p4 1 : Nat), .int .u64 (wd p4 2 : Nat), .int .u64 (wd p4 3 : Nat)] 24)) gc 24 #[.int .u64 (wd c 0 : Nat), .int .u64 (wd c 1 : Nat), .int .u64 (wd c 2 : Nat), .int .u64 (wd c 3 : Nat)] := Fc.out.alloc _
  have Nbc : At (v31.alloc (.cells #[.int .u64 (wd p4 0 : Nat), .int .u64 (wd p4 1 : Nat), .int .u64 (wd p4 2 : Nat), .int .u64 (wd p4 3 : Nat)] 24)) gbc 24 #[.int .u64 (wd s2 0 : Nat), .int .u64 (wd s2 1 : Nat), .int .u64 (wd s2 2 : Nat), .int .u64 (wd s2 3 : Nat)] := Fbc.out.alloc _
  have Nx : At (v31.alloc (.cells #[.int .u64 (wd p4 0 : Nat), .int .u64 (wd p4 1 : Nat), .int .u64 (wd p4 2 : Nat), .int .u64 (wd p4 3 : Nat)] 24)) gx 24 #[.int .u64 (wd p1 0 : Nat), .int .u64 (wd p1 1 : Nat), .int .u64 (wd p1 2 : Nat), .int .u64 (wd p1 3 : Nat)] := Fx.out.alloc _
  have Ny : At (v31.alloc (.cells #[.int .u64 (wd p4 0 : Nat), .int .u64 (wd p4 1 : Nat), .int .u64 (wd p4 2 : Nat), .int .u64 (wd p4 3 : Nat)] 24)) gy 24 #[.int .u64 (wd p1 0 : Nat), .int .u64 (wd p1 1 : Nat), .int .u64 (wd p1 2 : Nat), .int .u64 (wd p1 3 : Nat)] := Fy.out.alloc _
  have Nz : At (v31.alloc (.cells #[.int .u64 (wd p4 0 : Nat), .int .u64 (wd p4 1 : Nat), .int .u64 (wd p4 2 : Nat), .int .u64 (wd p4 3 : Nat)] 24)) gz 24 #[.int .u64 (wd p2 0 : Nat), .int .u64 (wd p2 1 : Nat), .int .u64 (wd p2 2 : Nat), .int .u64 (wd p2 3 : Nat)] := Fz.out.alloc _
  have Nu : At (v31.alloc (.cells #[.int .u64 (wd p4 0 : Nat), .int .u64 (wd p4 1 : Nat), .int .u64 (wd p4 2 : Nat), .int .u64 (wd p4 3 : Nat)] 24)) gu 24 #[.int .u64 (wd p3 0 : Nat), .int .u64 (wd p3 1 : Nat), .int .u64 (wd p3 2 : Nat), .int .u64 (wd p3 3 : Nat)] := Fu.out.alloc _
  have Nsu : At (v31.alloc (.cells #[.int .u64 (wd p4 0 : Nat), .int .u64 (wd p4 1 : Nat), .int .u64 (wd p4 2 : Nat), .int .u64 (wd p4 3 : Nat)] 24)) gsu 24 #[.int .u64 (wd p3 0 : Nat), .int .u64 (wd p3 1 : Nat), .int .u64 (wd p3 2 : Nat), .int .u64 (wd p3 3 : Nat)] := Fsu.out.alloc _
  have NB : Below w.heap.size w (v31.alloc (.cells #[.int .u64 (wd p4 0 : Nat), .int .u64 (wd p4 1 : Nat), .int .u64 (wd p4 2 : Nat), .int .u64 (wd p4 3 : Nat)] 24)) := gr_alloc BW.out _
  clear BW Fm Fa Fb Fc Fbc Fx Fy Fz Fu Fsu
  generalize (v31.alloc (.cells #[.int .u64 (wd p4 0 : Nat), .int .u64 (wd p4 1 : Nat), .int .u64 (wd p4 2 : Nat), .int .u64 (wd p4 3 : Nat)] 24)) = W32 at *
  generalize v31.heap.size = gxc at *
  have Fm := Lib.hid Nm
  have Fa := Lib.hid Na
  have Fb := Lib.hid Nb
  have Fc := Lib.hid Nc
  have Fbc := Lib.hid Nbc
  have Fx := Lib.hid Nx
  have Fy := Lib.hid Ny
  have Fz := Lib.hid Nz
  have Fu := Lib.hid Nu
  have Fsu := Lib.hid Nsu
  have Fxc := Lib.hid Nxc
  have BW := Lib.hid NB
  clear NB Nm Na Nb Nc Nbc Nx Ny Nz Nu Nsu Nxc
  refine (HP7.out _).mono ?_
  rintro e v33 ⟨rfl, z33⟩
  have Nm := Lib.hid (Fm.out.on z33)
  have Na := Lib.hid (Fa.out.on z33)
  have Nb := Lib.hid (Fb.out.on z33)
  have Nc := Lib.hid (Fc.out.on z33)
  have Nbc := Lib.hid (Fbc.out.on z33)
  have Nx := Lib.hid (Fx.out.on z33)
  have Ny := Lib.hid (Fy.out.on z33)
  have Nz := Lib.hid (Fz.out.on z33)
  have Nu := Lib.hid (Fu.out.on z33)
  have Nsu := Lib.hid (Fsu.out.on z33)
  have Nxc := Lib.hid (Fxc.out.on z33)
  have NB := Lib.hid (bel_tr BW.out z33)
  clear BW z33 Fm Fa Fb Fc Fbc Fx Fy Fz Fu Fsu Fxc
  have Fm := Nm
  have Fa := Na
  have Fb := Nb
  have Fc := Nc
  have Fbc := Nbc
  have Fx := Nx
  have Fy := Ny
  have Fz := Nz
  have Fu := Nu
  have Fsu := Nsu
  have Fxc := Nxc
  have BW := NB
  clear NB Nm Na Nb Nc Nbc Nx Ny Nz Nu Nsu Nxc
  have La := Fa.out.lt
  have ca0 : v33.cell? ⟨ga, 0, none⟩ = some (.int .u64 (wd a 0 : Nat)) := Fa.out.cell 0
  have ca1 : v33.cell? ⟨ga, 1, none⟩ = some (.int .u64 (wd a 1 : Nat)) := Fa.out.cell 1
  have ca2 : v33.cell? ⟨ga, 2, none⟩ = some (.int .u64 (wd a 2 : Nat)) := Fa.out.cell 2
  have ca3 : v33.cell? ⟨ga, 3, none⟩ = some (.int .u64 (wd a 3 : Nat)) := Fa.out.cell 3
  have Lm := Fm.out.lt
  have cm0 : v33.cell? ⟨gm, 0, none⟩ = some (.int .u64 (wd M 0 : Nat)) := Fm.out.cell 0
  have cm1 : v33.cell? ⟨gm, 1, none⟩ = some (.int .u64 (wd M 1 : Nat)) := Fm.out.cell 1
  have cm2 : v33.cell? ⟨gm, 2, none⟩ = some (.int .u64 (wd M 2 : Nat)) := Fm.out.cell 2
  have cm3 : v33.cell? ⟨gm, 3, none⟩ = some (.int .u64 (wd M 3 : Nat)) := Fm.out.cell 3
  go_wp2_with fail
  clear La ca0 ca1 ca2 ca3 Lm cm0 cm1 cm2 cm3
  have Nv : At (v33.alloc (.cells #[.int .u64 (wd p5 0 : Nat), .int .u64 (wd p5 1 : Nat), .int .u64 (wd p5 2 : Nat), .int .u64 (wd p5 3 : Nat)] 24)) (v33.heap.size) 24 #[.int .u64 (wd p5 0 : Nat), .int .u64 (wd p5 1 : Nat), .int .u64 (wd p5 2 : Nat), .int .u64 (wd p5 3 : Nat)] := At.at_ _ _ _ _ (by simp)
  have Nm : At (v33.alloc (.cells #[.int .u64 (wd p5 0 : Nat), .int .u64 (wd p5 1 : Nat), .int .u64 (wd p5 2 : Nat), .int .u64 (wd p5 3 : Nat)] 24)) gm 24 #[.int .u64 (wd M 0 : Nat), .int .u64 (wd M 1 : Nat), .int .u64 (wd M 2 : Nat), .int .u64 (wd M 3 : Nat)] := Fm.out.alloc _
  have Na : At (v33.alloc (.cells #[.int .u64 (wd p5 0 : Nat), .int .u64 (wd p5 1 : Nat), .int .u64 (wd p5 2 : Nat), .int .u64 (wd p5 3 : Nat)] 24)) ga 24 #[.int .u64 (wd a 0 : Nat), .int .u64 (wd a 1 : Nat), .int .u64 (wd a 2 : Nat), .int .u64 (wd a 3 : Nat)] := Fa.out.alloc _
  have Nb : At (v33.alloc (.cells #[.int .u64 (wd p5 0 : Nat), .int .u64 (wd p5 1 : Nat), .int .u64 (wd p5 2 : Nat), .int .u64 (wd p5 3 : Nat)] 24)) gb 24 #[.int .u64 (wd b 0 : Nat), .int .u64 (wd b 1 : Nat), .int .u64 (wd b 2 : Nat), .int .u64 (wd b 3 : Nat)] := Fb.out.alloc _
  have Nc : At (v33.alloc (.cells #[.int .u64 (wd p5 0 : Nat), .int .u64 (wd p5 1 : Nat), .int .u64 (wd p5 2 : Nat), .int .u64 (wd p5 3 : Nat)] 24)) gc 24 #[.int .u64 (wd c 0 : Nat), .int .u64 (wd c 1 : Nat), .int .u64 (wd c 2 : Nat), .int .u64 (wd c 3 : Nat)] := Fc.out.alloc _
  have Nbc : At (v33.alloc (.cells #[.int .u64 (wd p5 0 : Nat), .int .u64 (wd p5 1 : Nat), .int .u64 (wd p5 2 : Nat), .int .u64 (wd p5 3 : Nat)] 24)) gbc 24 #[.int .u64 (wd s2 0 : Nat), .int .u64 (wd s2 1 : Nat), .int .u64 (wd s2 2 : Nat), .int .u64 (wd s2 3 : Nat)] := Fbc.out.alloc _
  have Nx : At (v33.alloc (.cells #[.int .u64 (wd p5 0 : Nat), .int .u64 (wd p5 1 : Nat), .int .u64 (wd p5 2 : Nat), .int .u64 (wd p5 3 : Nat)] 24)) gx 24 #[.int .u64 (wd p1 0 : Nat), .int .u64 (wd p1 1 : Nat), .int .u64 (wd p1 2 : Nat), .int .u64 (wd p1 3 : Nat)] := Fx.out.alloc _
  have Ny : At (v33.alloc (.cells #[.int .u64 (wd p5 0 : Nat), .int .u64 (wd p5 1 : Nat), .int .u64 (wd p5 2 : Nat), .int .u64 (wd p5 3 : Nat)] 24)) gy 24 #[.int .u64 (wd p1 0 : Nat), .int .u64 (wd p1 1 : Nat), .int .u64 (wd p1 2 : Nat), .int .u64 (wd p1 3 : Nat)] := Fy.out.alloc _
  have Nz : At (v33.alloc (.cells #[.int .u64 (wd p5 0 : Nat), .int .u64 (wd p5 1 : Nat), .int .u64 (wd p5 2 : Nat), .int .u64 (wd p5 3 : Nat)] 24)) gz 24 #[.int .u64 (wd p2 0 : Nat), .int .u64 (wd p2 1 : Nat), .int .u64 (wd p2 2 : Nat), .int .u64 (wd p2 3 : Nat)] := Fz.out.alloc _
  have Nu : At (v33.alloc (.cells #[.int .u64 (wd p5 0 : Nat), .int .u64 (wd p5 1 : Nat), .int .u64 (wd p5 2 : Nat), .int .u64 (wd p5 3 : Nat)] 24)) gu 24 #[.int .u64 (wd p3 0 : Nat), .int .u64 (wd p3 1 : Nat), .int .u64 (wd p3 2 : Nat), .int .u64 (wd p3 3 : Nat)] := Fu.out.alloc _
  have Nsu : At (v33.alloc (.cells #[.int .u64 (wd p5 0 : Nat), .int .u64 (wd p5 1 : Nat), .int .u64 (wd p5 2 : Nat), .int .u64 (wd p5 3 : Nat)] 24)) gsu 24 #[.int .u64 (wd p3 0 : Nat), .int .u64 (wd p3 1 : Nat), .int .u64 (wd p3 2 : Nat), .int .u64 (wd p3 3 : Nat)] := Fsu.out.alloc _
  have Nxc : At (v33.alloc (.cells #[.int .u64 (wd p5 0 : Nat), .int .u64 (wd p5 1 : Nat), .int .u64 (wd p5 2 : Nat), .int .u64 (wd p5 3 : Nat)] 24)) gxc 24 #[.int .u64 (wd p4 0 : Nat), .int .u64 (wd p4 1 : Nat), .int .u64 (wd p4 2 : Nat), .int .u64 (wd p4 3 : Nat)] := Fxc.out.alloc _
  have NB : Below w.heap.size w (v33.alloc (.cells #[.int .u64 (wd p5 0 : Nat), .int .u64 (wd p5 1 : Nat), .int .u64 (wd p5 2 : Nat), .int .u64 (wd p5 3 : Nat)] 24)) := gr_alloc BW.out _
  clear BW Fm Fa Fb Fc Fbc Fx Fy Fz Fu Fsu Fxc
  generalize (v33.alloc (.cells #[.int .u64 (wd p5 0 : Nat), .int .u64 (wd p5 1 : Nat), .int .u64 (wd p5 2 : Nat), .int .u64 (wd p5 3 : Nat)] 24)) = W34 at *
  generalize v33.heap.size = gv at *
  have Fm := Lib.hid Nm
  have Fa := Lib.hid Na
  have Fb := Lib.hid Nb
  have Fc := Lib.hid Nc
  have Fbc := Lib.hid Nbc
  have Fx := Lib.hid Nx
  have Fy := Lib.hid Ny
  have Fz := Lib.hid Nz
  have Fu := Lib.hid Nu
  have Fsu := Lib.hid Nsu
  have Fxc := Lib.hid Nxc
  have Fv := Lib.hid Nv
  have BW := Lib.hid NB
  clear NB Nm Na Nb Nc Nbc Nx Ny Nz Nu Nsu Nxc Nv
  refine (HP8.out _).mono ?_
  rintro e v35 ⟨rfl, z35⟩
  have Nm := Lib.hid (Fm.out.on z35)
  have Na := Lib.hid (Fa.out.on z35)
  have Nb := Lib.hid (Fb.out.on z35)
  have Nc := Lib.hid (Fc.out.on z35)
  have Nbc := Lib.hid (Fbc.out.on z35)
  have Nx := Lib.hid (Fx.out.on z35)
  have Ny := Lib.hid (Fy.out.on z35)
  have Nz := Lib.hid (Fz.out.on z35)
  have Nu := Lib.hid (Fu.out.on z35)
  have Nsu := Lib.hid (Fsu.out.on z35)
  have Nxc := Lib.hid (Fxc.out.on z35)
  have Nv := Lib.hid (Fv.out.on z35)
  have NB := Lib.hid (bel_tr BW.out z35)
  clear BW z35 Fm Fa Fb Fc Fbc Fx Fy Fz Fu Fsu Fxc Fv
  have Fm := Nm
  have Fa := Na
  have Fb := Nb
  have Fc := Nc
  have Fbc := Nbc
  have Fx := Nx
  have Fy := Ny
  have Fz := Nz
  have Fu := Nu
  have Fsu := Nsu
  have Fxc := Nxc
  have Fv := Nv
  have BW := NB
  clear NB Nm Na Nb Nc Nbc Nx Ny Nz Nu Nsu Nxc Nv
  go_wp2_with fail
  have Nav : At (v35.alloc (.cells #[.int .u64 (wd p4 0 : Nat), .int .u64 (wd p4 1 : Nat), .int .u64 (wd p4 2 : Nat), .int .u64 (wd p4 3 : Nat)] 24)) (v35.heap.size) 24 #[.int .u64 (wd p4 0 : Nat), .int .u64 (wd p4 1 : Nat), .int .u64 (wd p4 2 : Nat), .int .u64 (wd p4 3 : Nat)] := At.at_ _ _ _ _ (by simp)
  have Nm : At (v35.alloc (.cells #[.int .u64 (wd p4 0 : Nat), .int .u64 (wd p4 1 : Nat), .int .u64 (wd p4 2 : Nat), .int .u64 (wd p4 3 : Nat)] 24)) gm 24 #[.int .u64 (wd M 0 : Nat), .int .u64 (wd M 1 : Nat), .int .u64 (wd M 2 : Nat), .int .u64 (wd M 3 : Nat)] := Fm.out.alloc _
  have Na : At (v35.alloc (.cells #[.int .u64 (wd p4 0 : Nat), .int .u64 (wd p4 1 : Nat), .int .u64 (wd p4 2 : Nat), .int .u64 (wd p4 3 : Nat)] 24)) ga 24 #[.int .u64 (wd a 0 : Nat), .int .u64 (wd a 1 : Nat), .int .u64 (wd a 2 : Nat), .int .u64 (wd a 3 : Nat)] := Fa.out.alloc _
  have Nb : At (v35.alloc (.cells #[.int .u64 (wd p4 0 : Nat), .int .u64 (wd p4 1 : Nat), .int .u64 (wd p4 2 : Nat), .int .u64 (wd p4 3 : Nat)] 24)) gb 24 #[.int .u64 (wd b 0 : Nat), .int .u64 (wd b 1 : Nat), .int .u64 (wd b 2 : Nat), .int .u64 (wd b 3 : Nat)] := Fb.out.alloc _
  have Nc : At (v35.alloc (.cells #[.int .u64 (wd p4 0 : Nat), .int .u64 (wd p4 1 : Nat), .int .u64 (wd p4 2 : Nat), .int .u64 (wd p4 3 : Nat)] 24)) gc 24 #[.int .u64 (wd c 0 : Nat), .int .u64 (wd c 1 : Nat), .int .u64 (wd c 2 : Nat), .int .u64 (wd c 3 : Nat)] := Fc.out.alloc _
  have Nbc : At (v35.alloc (.cells #[.int .u64 (wd p4 0 : Nat), .int .u64 (wd p4 1 : Nat), .int .u64 (wd p4 2 : Nat), .int .u64 (wd p4 3 : Nat)] 24)) gbc 24 #[.int .u64 (wd s2 0 : Nat), .int .u64 (wd s2 1 : Nat), .int .u64 (wd s2 2 : Nat), .int .u64 (wd s2 3 : Nat)] := Fbc.out.alloc _
  have Nx : At (v35.alloc (.cells #[.int .u64 (wd p4 0 : Nat), .int .u64 (wd p4 1 : Nat), .int .u64 (wd p4 2 : Nat), .int .u64 (wd p4 3 : Nat)] 24)) gx 24 #[.int .u64 (wd p1 0 : Nat), .int .u64 (wd p1 1 : Nat), .int .u64 (wd p1 2 : Nat), .int .u64 (wd p1 3 : Nat)] := Fx.out.alloc _
  have Ny : At (v35.alloc (.cells #[.int .u64 (wd p4 0 : Nat), .int .u64 (wd p4 1 : Nat), .int .u64 (wd p4 2 : Nat), .int .u64 (wd p4 3 : Nat)] 24)) gy 24 #[.int .u64 (wd p1 0 : Nat), .int .u64 (wd p1 1 : Nat), .int .u64 (wd p1 2 : Nat), .int .u64 (wd p1 3 : Nat)] := Fy.out.alloc _
  have Nz : At (v35.alloc (.cells #[.int .u64 (wd p4 0 : Nat), .int .u64 (wd p4 1 : Nat), .int .u64 (wd p4 2 : Nat), .int .u64 (wd p4 3 : Nat)] 24)) gz 24 #[.int .u64 (wd p2 0 : Nat), .int .u64 (wd p2 1 : Nat), .int .u64 (wd p2 2 : Nat), .int .u64 (wd p2 3 : Nat)] := Fz.out.alloc _
  have Nu : At (v35.alloc (.cells #[.int .u64 (wd p4 0 : Nat), .int .u64 (wd p4 1 : Nat), .int .u64 (wd p4 2 : Nat), .int .u64 (wd p4 3 : Nat)] 24)) gu 24 #[.int .u64 (wd p3 0 : Nat), .int .u64 (wd p3 1 : Nat), .int .u64 (wd p3 2 : Nat), .int .u64 (wd p3 3 : Nat)] := Fu.out.alloc _
  have Nsu : At (v35.alloc (.cells #[.int .u64 (wd p4 0 : Nat), .int .u64 (wd p4 1 : Nat), .int .u64 (wd p4 2 : Nat), .int .u64 (wd p4 3 : Nat)] 24)) gsu 24 #[.int .u64 (wd p3 0 : Nat), .int .u64 (wd p3 1 : Nat), .int .u64 (wd p3 2 : Nat), .int .u64 (wd p3 3 : Nat)] := Fsu.out.alloc _
  have Nxc : At (v35.alloc (.cells #[.int .u64 (wd p4 0 : Nat), .int .u64 (wd p4 1 : Nat), .int .u64 (wd p4 2 : Nat), .int .u64 (wd p4 3 : Nat)] 24)) gxc 24 #[.int .u64 (wd p4 0 : Nat), .int .u64 (wd p4 1 : Nat), .int .u64 (wd p4 2 : Nat), .int .u64 (wd p4 3 : Nat)] := Fxc.out.alloc _
  have Nv : At (v35.alloc (.cells #[.int .u64 (wd p4 0 : Nat), .int .u64 (wd p4 1 : Nat), .int .u64 (wd p4 2 : Nat), .int .u64 (wd p4 3 : Nat)] 24)) gv 24 #[.int .u64 (wd p5 0 : Nat), .int .u64 (wd p5 1 : Nat), .int .u64 (wd p5 2 : Nat), .int .u64 (wd p5 3 : Nat)] := Fv.out.alloc _
  have NB : Below w.heap.size w (v35.alloc (.cells #[.int .u64 (wd p4 0 : Nat), .int .u64 (wd p4 1 : Nat), .int .u64 (wd p4 2 : Nat), .int .u64 (wd p4 3 : Nat)] 24)) := gr_alloc BW.out _
  clear BW Fm Fa Fb Fc Fbc Fx Fy Fz Fu Fsu Fxc Fv
  generalize (v35.alloc (.cells #[.int .u64 (wd p4 0 : Nat), .int .u64 (wd p4 1 : Nat), .int .u64 (wd p4 2 : Nat), .int .u64 (wd p4 3 : Nat)] 24)) = W36 at *
  generalize v35.heap.size = gav at *
  have Fm := Lib.hid Nm
  have Fa := Lib.hid Na
  have Fb := Lib.hid Nb
  have Fc := Lib.hid Nc
  have Fbc := Lib.hid Nbc
  have Fx := Lib.hid Nx
  have Fy := Lib.hid Ny
  have Fz := Lib.hid Nz
  have Fu := Lib.hid Nu
  have Fsu := Lib.hid Nsu
  have Fxc := Lib.hid Nxc
  have Fv := Lib.hid Nv
  have Fav := Lib.hid Nav
  have BW := Lib.hid NB
  clear NB Nm Na Nb Nc Nbc Nx Ny Nz Nu Nsu Nxc Nv Nav
  clear Fa
  clear Fb
  clear Fc
  clear Fm
  clear Fbc
  clear Fz
  clear Fv
  refine (alive4_any _).mono ?_
  rintro e v37 ⟨rfl, z37⟩
  have Nx := Lib.hid (Fx.out.on z37)
  have Ny := Lib.hid (Fy.out.on z37)
  have Nu := Lib.hid (Fu.out.on z37)
  have Nsu := Lib.hid (Fsu.out.on z37)
  have Nxc := Lib.hid (Fxc.out.on z37)
  have Nav := Lib.hid (Fav.out.on z37)
  have NB := Lib.hid (bel_tr BW.out z37)
  clear BW z37 Fx Fy Fu Fsu Fxc Fav
  have Fx := Nx
  have Fy := Ny
  have Fu := Nu
  have Fsu := Nsu
  have Fxc := Nxc
  have Fav := Nav
  have BW := NB
  clear NB Nx Ny Nu Nsu Nxc Nav
  have Lx := Fx.out.lt
  have cx0 : v37.cell? ⟨gx, 0, none⟩ = some (.int .u64 (wd p1 0 : Nat)) := Fx.out.cell 0
  have cx1 : v37.cell? ⟨gx, 1, none⟩ = some (.int .u64 (wd p1 1 : Nat)) := Fx.out.cell 1
  have cx2 : v37.cell? ⟨gx, 2, none⟩ = some (.int .u64 (wd p1 2 : Nat)) := Fx.out.cell 2
  have cx3 : v37.cell? ⟨gx, 3, none⟩ = some (.int .u64 (wd p1 3 : Nat)) := Fx.out.cell 3
  have Ly := Fy.out.lt
  have cy0 : v37.cell? ⟨gy, 0, none⟩ = some (.int .u64 (wd p1 0 : Nat)) := Fy.out.cell 0
  have cy1 : v37.cell? ⟨gy, 1, none⟩ = some (.int .u64 (wd p1 1 : Nat)) := Fy.out.cell 1
  have cy2 : v37.cell? ⟨gy, 2, none⟩ = some (.int .u64 (wd p1 2 : Nat)) := Fy.out.cell 2
  have cy3 : v37.cell? ⟨gy, 3, none⟩ = some (.int .u64 (wd p1 3 : Nat)) := Fy.out.cell 3
  have Lu := Fu.out.lt
  have cu0 : v37.cell? ⟨gu, 0, none⟩ = some (.int .u64 (wd p3 0 : Nat)) := Fu.out.cell 0
  have cu1 : v37.cell? ⟨gu, 1, none⟩ = some (.int .u64 (wd p3 1 : Nat)) := Fu.out.cell 1
  have cu2 : v37.cell? ⟨gu, 2, none⟩ = some (.int .u64 (wd p3 2 : Nat)) := Fu.out.cell 2
  have cu3 : v37.cell? ⟨gu, 3, none⟩ = some (.int .u64 (wd p3 3 : Nat)) := Fu.out.cell 3
  have Lsu := Fsu.out.lt
  have csu0 : v37.cell? ⟨gsu, 0, none⟩ = some (.int .u64 (wd p3 0 : Nat)) := Fsu.out.cell 0
  have csu1 : v37.cell? ⟨gsu, 1, none⟩ = some (.int .u64 (wd p3 1 : Nat)) := Fsu.out.cell 1
  have csu2 : v37.cell? ⟨gsu, 2, none⟩ = some (.int .u64 (wd p3 2 : Nat)) := Fsu.out.cell 2
  have csu3 : v37.cell? ⟨gsu, 3, none⟩ = some (.int .u64 (wd p3 3 : Nat)) := Fsu.out.cell 3
  have Lxc := Fxc.out.lt
  have cxc0 : v37.cell? ⟨gxc, 0, none⟩ = some (.int .u64 (wd p4 0 : Nat)) := Fxc.out.cell 0
  have cxc1 : v37.cell? ⟨gxc, 1, none⟩ = some (.int .u64 (wd p4 1 : Nat)) := Fxc.out.cell 1
  have cxc2 : v37.cell? ⟨gxc, 2, none⟩ = some (.int .u64 (wd p4 2 : Nat)) := Fxc.out.cell 2
  have cxc3 : v37.cell? ⟨gxc, 3, none⟩ = some (.int .u64 (wd p4 3 : Nat)) := Fxc.out.cell 3
  have Lav := Fav.out.lt
  have cav0 : v37.cell? ⟨gav, 0, none⟩ = some (.int .u64 (wd p4 0 : Nat)) := Fav.out.cell 0
  have cav1 : v37.cell? ⟨gav, 1, none⟩ = some (.int .u64 (wd p4 1 : Nat)) := Fav.out.cell 1
  have cav2 : v37.cell? ⟨gav, 2, none⟩ = some (.int .u64 (wd p4 2 : Nat)) := Fav.out.cell 2
  have cav3 : v37.cell? ⟨gav, 3, none⟩ = some (.int .u64 (wd p4 3 : Nat)) := Fav.out.cell 3
  have qqp1 := eqY p1
  have qqp3 := eqY p3
  have qqp4 := eqY p4
  go_wp2_with fail
  go_ret
  exact ⟨rfl, BW.out⟩

theorem laws_walk (X Y V M : Nat) (hX : X < 2 ^ 256) (hY : Y < 2 ^ 256) (hV : V < 2 ^ 256) (hM : M < 2 ^ 256) (w : World) : Calls Try.prog 5 #[.agg #[.int .u64 (wd X 0 : Nat), .int .u64 (wd X 1 : Nat), .int .u64 (wd X 2 : Nat), .int .u64 (wd X 3 : Nat), .int .u64 (wd Y 0 : Nat), .int .u64 (wd Y 1 : Nat), .int .u64 (wd Y 2 : Nat), .int .u64 (wd Y 3 : Nat), .int .u64 (wd V 0 : Nat), .int .u64 (wd V 1 : Nat), .int .u64 (wd V 2 : Nat), .int .u64 (wd V 3 : Nat)], num M] w fun e w' => e = .returned (.bool true) ∧ Below w.heap.size w w' := by
  by_cases h1 : 1 < M
  · have h0 : M ≠ 0 := by omega
    have ha : X % M < M := Nat.mod_lt _ (by omega)
    have hb : Y % M < M := Nat.mod_lt _ (by omega)
    have hc : V % M < M := Nat.mod_lt _ (by omega)
    have lt : ∀ x, x % M < M := fun x => Nat.mod_lt _ (by omega)
    obtain ⟨a, ea⟩ : ∃ a, a = X % M := ⟨_, rfl⟩
    obtain ⟨b, eb⟩ : ∃ b, b = Y % M := ⟨_, rfl⟩
    obtain ⟨c, ec⟩ : ∃ c, c = V % M := ⟨_, rfl⟩
    have B1 := belowM_any X M hX hM h0
    have B2 := belowM_any Y M hY hM h0
    have B3 := belowM_any V M hV hM h0
    rw [← ea] at ha B1
    rw [← eb] at hb B2
    rw [← ec] at hc B3
    have S2 := madd_yes b a M hM h1 hb ha
    rw [Nat.add_comm b a] at S2
    have S5 := madd_yes a ((b + c) % M) M hM h1 ha (lt _)
    rw [show (a + (b + c) % M) % M = ((a + b) % M + c) % M by rw [Nat.add_mod_mod, Nat.mod_add_mod, Nat.add_assoc]] at S5
    have S6 := msub_yes ((a + b) % M) b M hM h1 (lt _) hb
    rw [show ((a + b) % M + M - b) % M = a by
      by_cases h : a + b < M
      · rw [Nat.mod_eq_of_lt h, show a + b + M - b = a + M by omega, Nat.add_mod_right, Nat.mod_eq_of_lt ha]
      · rw [show (a + b) % M = a + b - M by rw [Nat.mod_eq_sub_mod (by omega), Nat.mod_eq_of_lt (by omega)], show a + b - M + M - b = a by omega, Nat.mod_eq_of_lt ha]] at S6
    have P2 := mmul_yes b a M hM h1 hb ha
    rw [Nat.mul_comm b a] at P2
    have P5 := madd_yes (a * b % M) (a * c % M) M hM h1 (lt _) (lt _)
    rw [show (a * b % M + a * c % M) % M = a * ((b + c) % M) % M by rw [Nat.mul_mod_mod, Nat.mul_add, ← Nat.add_mod]] at P5
    have P8 := mmul_yes a (b * c % M) M hM h1 ha (lt _)
    rw [show a * (b * c % M) % M = a * b % M * c % M by rw [Nat.mul_mod_mod, Nat.mod_mul_mod, Nat.mul_assoc]] at P8
    exact laws_some X Y V M 1 a b c _ _ _ _ _ _ _ _ _ (cmpN_pos h1) (fun w => ofM_any 1 (by decide) w) (fun w => cmp_any M 1 hM (by decide) w) B1 B2 B3 (madd_yes a b M hM h1 ha hb) S2 (madd_yes b c M hM h1 hb hc) (madd_yes _ c M hM h1 (lt _) hc) S5 S6
      (mmul_yes a b M hM h1 ha hb) P2 (mmul_yes a c M hM h1 ha hc) (mmul_yes a _ M hM h1 ha (lt _)) P5 (mmul_yes _ c M hM h1 (lt _) hc) (mmul_yes b c M hM h1 hb hc) P8 w
  · exact laws_none X Y V M 1 _ (cmpN_le (by omega)) (fun w => ofM_any 1 (by decide) w) (fun w => cmp_any M 1 hM (by decide) w) w
end Go.Proofs.Ytmhmdbjjmmmgkaa
