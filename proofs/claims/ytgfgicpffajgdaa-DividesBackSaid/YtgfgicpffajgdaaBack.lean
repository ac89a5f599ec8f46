/-
  The walk of DividesBack: it answers true, and nothing that was there is changed.
-/
import Derived.Test.YtgfgicpffajgdaaAlive3
namespace Go.Proofs.Ytgfgicpffajgdaa
open Go.RowKit
attribute [local go_sem ↓] Go.wp_at_zero Go.wp_at_succ

set_option maxRecDepth 100000 in
set_option maxHeartbeats 8000000 in
theorem back_zero (A Z : Nat) (CD : ∀ w, Calls Try.prog 30 #[num A, num Z] w fun e w' => e = .returned (.tuple #[num Z, num Z, .int .i64 1]) ∧ Below w.heap.size w w')
    (CO : ∀ w, Calls Try.prog 36 #[.int .u64 0] w fun e w' => e = .returned (num Z) ∧ Below w.heap.size w w') (w : World) :
    Calls Try.prog 6 #[num A, num Z] w fun e w' => e = .returned (.bool true) ∧ Below w.heap.size w w' := by
  have HD := Lib.hid CD; have HO := Lib.hid CO
  clear CD CO
  go_enter Try.func6, Try.ntmps6
  go_wp2_with fail
  have BW := Lib.hid (Below.refl w.heap.size w)
  have Na : At ((w.alloc (.cells #[.int .u64 (wd A 0 : Nat), .int .u64 (wd A 1 : Nat), .int .u64 (wd A 2 : Nat), .int .u64 (wd A 3 : Nat)] 24)).alloc (.cells #[.int .u64 (wd Z 0 : Nat), .int .u64 (wd Z 1 : Nat), .int .u64 (wd Z 2 : Nat), .int .u64 (wd Z 3 : Nat)] 24)) (w.heap.size) 24 #[.int .u64 (wd A 0 : Nat), .int .u64 (wd A 1 : Nat), .int .u64 (wd A 2 : Nat), .int .u64 (wd A 3 : Nat)] := (At.at_ _ _ _ _ (by simp)).alloc _
  have Nb : At ((w.alloc (.cells #[.int .u64 (wd A 0 : Nat), .int .u64 (wd A 1 : Nat), .int .u64 (wd A 2 : Nat), .int .u64 (wd A 3 : Nat)] 24)).alloc (.cells #[.int .u64 (wd Z 0 : Nat), .int .u64 (wd Z 1 : Nat), .int .u64 (wd Z 2 : Nat), .int .u64 (wd Z 3 : Nat)] 24)) (w.heap.size + 1) 24 #[.int .u64 (wd Z 0 : Nat), .int .u64 (wd Z 1 : Nat), .int .u64 (wd Z 2 : Nat), .int .u64 (wd Z 3 : Nat)] := At.at_ _ _ _ _ (by simp)
  have NB : Below w.heap.size w ((w.alloc (.cells #[.int .u64 (wd A 0 : Nat), .int .u64 (wd A 1 : Nat), .int .u64 (wd A 2 : Nat), .int .u64 (wd A 3 : Nat)] 24)).alloc (.cells #[.int .u64 (wd Z 0 : Nat), .int .u64 (wd Z 1 : Nat), .int .u64 (wd Z 2 : Nat), .int .u64 (wd Z 3 : Nat)] 24)) := gr_alloc (gr_alloc BW.out _) _
  clear BW 
  generalize ((w.alloc (.cells #[.int .u64 (wd A 0 : Nat), .int .u64 (wd A 1 : Nat), .int .u64 (wd A 2 : Nat), .int .u64 (wd A 3 : Nat)] 24)).alloc (.cells #[.int .u64 (wd Z 0 : Nat), .int .u64 (wd Z 1 : Nat), .int .u64 (wd Z 2 : Nat), .int .u64 (wd Z 3 : Nat)] 24)) = W1 at *
  generalize w.heap.size + 1 = gb at *
  obtain ⟨ga, hg0⟩ : ∃ g, g = w.heap.size := ⟨_, rfl⟩
  rw [← hg0] at Na ⊢
  clear hg0
  have Fa := Lib.hid Na
  have Fb := Lib.hid Nb
  have BW := Lib.hid NB
  clear NB Na Nb
  refine (HD.out _).mono ?_
  rintro e v2 ⟨rfl, z2⟩
  have Na := Lib.hid (Fa.out.on z2)
  have Nb := Lib.hid (Fb.out.on z2)
  have NB := Lib.hid (bel_tr BW.out z2)
  clear BW z2 Fa Fb
  have Fa := Na
  have Fb := Nb
  have BW := NB
  clear NB Na Nb
  go_wp2_with fail
  have Nq : At ((v2.alloc (.cells #[.int .u64 (wd Z 0 : Nat), .int .u64 (wd Z 1 : Nat), .int .u64 (wd Z 2 : Nat), .int .u64 (wd Z 3 : Nat)] 24)).alloc (.cells #[.int .u64 (wd Z 0 : Nat), .int .u64 (wd Z 1 : Nat), .int .u64 (wd Z 2 : Nat), .int .u64 (wd Z 3 : Nat)] 24)) (v2.heap.size) 24 #[.int .u64 (wd Z 0 : Nat), .int .u64 (wd Z 1 : Nat), .int .u64 (wd Z 2 : Nat), .int .u64 (wd Z 3 : Nat)] := (At.at_ _ _ _ _ (by simp)).alloc _
  have Nr : At ((v2.alloc (.cells #[.int .u64 (wd Z 0 : Nat), .int .u64 (wd Z 1 : Nat), .int .u64 (wd Z 2 : Nat), .int .u64 (wd Z 3 : Nat)] 24)).alloc (.cells #[.int .u64 (wd Z 0 : Nat), .int .u64 (wd Z 1 : Nat), .int .u64 (wd Z 2 : Nat), .int .u64 (wd Z 3 : Nat)] 24)) (v2.heap.size + 1) 24 #[.int .u64 (wd Z 0 : Nat), .int .u64 (wd Z 1 : Nat), .int .u64 (wd Z 2 : Nat), .int .u64 (wd Z 3 : Nat)] := At.at_ _ _ _ _ (by simp)
  have Na : At ((v2.alloc (.cells #[.int .u64 (wd Z 0 : Nat), .int .u64 (wd Z 1 : Nat), .int .u64 (wd Z 2 : Nat), .int .u64 (wd Z 3 : Nat)] 24)).alloc (.cells #[.int .u64 (wd Z 0 : Nat), .int .u64 (wd Z 1 : Nat), .int .u64 (wd Z 2 : Nat), .int .u64 (wd Z 3 : Nat)] 24)) ga 24 #[.int .u64 (wd A 0 : Nat), .int .u64 (wd A 1 : Nat), .int .u64 (wd A 2 : Nat), .int .u64 (wd A 3 : Nat)] := (Fa.out.alloc _).alloc _
  have Nb : At ((v2.alloc (.cells #[.int .u64 (wd Z 0 : Nat), .int .u64 (wd Z 1 : Nat), .int .u64 (wd Z 2 : Nat), .int .u64 (wd Z 3 : Nat)] 24)).alloc (.cells #[.int .u64 (wd Z 0 : Nat), .int .u64 (wd Z 1 : Nat), .int .u64 (wd Z 2 : Nat), .int .u64 (wd Z 3 : Nat)] 24)) gb 24 #[.int .u64 (wd Z 0 : Nat), .int .u64 (wd Z 1 : Nat), .int .u64 (wd Z 2 : Nat), .int .u64 (wd Z 3 : Nat)] := (Fb.out.alloc _).alloc _
  have NB : Below w.heap.size w ((v2.alloc (.cells #[.int .u64 (wd Z 0 : Nat), .int .u64 (wd Z 1 : Nat), .int .u64 (wd Z 2 : Nat), .int .u64 (wd Z 3 : Nat)] 24)).alloc (.cells #[.int .u64 (wd Z 0 : Nat), .int .u64 (wd Z 1 : Nat), .int .u64 (wd Z 2 : Nat), .int .u64 (wd Z 3 : Nat)] 24)) := gr_alloc (gr_alloc BW.out _) _
  clear BW Fa Fb
  generalize ((v2.alloc (.cells #[.int .u64 (wd Z 0 : Nat), .int .u64 (wd Z 1 : Nat), .int .u64 (wd Z 2 : Nat), .int .u64 (wd Z 3 : Nat)] 24)).alloc (.cells #[.int .u64 (wd Z 0 : Nat), .int .u64 (wd Z 1 : Nat), .int .u64 (wd Z 2 : Nat), .int .u64 (wd Z 3 : Nat)] 24)) = W3 at *
  generalize v2.heap.size + 1 = gr at *
  generalize v2.heap.size = gq at *
  have Fa := Lib.hid Na
  have Fb := Lib.hid Nb
  have Fq := Lib.hid Nq
  have Fr := Lib.hid Nr
  have BW := Lib.hid NB
  clear NB Na Nb Nq Nr
  try simp only [List.append_eq, List.cons_append, List.nil_append]
  refine wp_region_noPanic ?_
  refine wp_region_held_drew (S := fun w' => At w' gb 24 #[.int .u64 (wd Z 0 : Nat), .int .u64 (wd Z 1 : Nat), .int .u64 (wd Z 2 : Nat), .int .u64 (wd Z 3 : Nat)]) (by kernel_rfl) (Fb.out.drew) (fun _ => ?_)
  refine wpAnyH_cores (fuel := 0) (⟨0, 19, [], Kind.val (.agg #[.int .u64 (wd Z 0 : Nat), .int .u64 (wd Z 1 : Nat), .int .u64 (wd Z 2 : Nat), .int .u64 (wd Z 3 : Nat)]), true⟩ :: ⟨1, 20, [0], Kind.val (.agg #[.int .u64 (wd Z 0 : Nat), .int .u64 (wd Z 1 : Nat), .int .u64 (wd Z 2 : Nat), .int .u64 (wd Z 3 : Nat)]), false⟩ :: ⟨2, 21, [0, 1], Kind.val (.bool true), true⟩ :: []) _ _ W3 _ ?_ ?_ ?_ ?_ ?_ ?_ ?_ ?_ ?_ ?_ ?_
  · rfl
  · kernel_rfl
  · exact of_decide_eq_true (by kernel_rfl)
  · exact all_cons ⟨_, by rfl, by rfl⟩ (all_cons ⟨_, by rfl, by rfl⟩ (all_cons ⟨_, by rfl, by rfl⟩ (all_nil)))
  · exact fun _ hb => Fb.out.on hb
  · exact (Below.refl _ _).drew
  · kernel_rfl
  · exact fun _ _ _ _ _ h => h
  · refine all_cons ?_ (all_cons ?_ (all_cons ?_ (all_nil)))
    · exact coreG_loadP _ _ _ _ _ _ gb _ _ _ _ (by rfl) (by rfl) (wants_none) (known_old 3 _ (of_decide_eq_true (by rfl)) (by rfl)) (fun _ hs => hs)
    · exact core_pureAs _ (by rfl)
    · exact coreG_bin _ _ _ _ _ _ _ _ _ _ _ _ _ (by rfl) (by rfl) (wants_none) (known_core 0 19 _ _ (of_decide_eq_true (by rfl)) (by rfl) (by rfl) (by rfl)) (known_core 1 20 _ _ (of_decide_eq_true (by rfl)) (by rfl) (by rfl) (by rfl)) (eql_run true _ _ _ _ _ _ _ _ _ _ _ _ _ _ _ (eqY Z))
  · refine all_cons ?_ (all_cons ?_ (all_cons ?_ (all_nil)))
    · exact core_stepAs _ (by rfl)
    · exact fun _ => coreG_call _ 36 _ _ [.const (.int .u64 0)] _ _ _ _ _ _ _ (by rfl) Try.func36 (by kernel_rfl) (by rfl) (by rfl) (wants_none) (.cons (known_const _) .nil) (HO.out)
    · exact core_stepAs _ (by rfl)
  intro vs y4 hc
  obtain ⟨vv0, vv1, vv2, rfl⟩ := len3 vs hc.lv
  have qq0 : vv0 = .agg #[.int .u64 (wd Z 0 : Nat), .int .u64 (wd Z 1 : Nat), .int .u64 (wd Z 2 : Nat), .int .u64 (wd Z 3 : Nat)] := by obtain ⟨xx, hx, hy⟩ := hc.ok 0 _ rfl rfl; exact (Option.some.inj (show some vv0 = some xx from hx)).trans hy
  have qq1 : vv1 = .agg #[.int .u64 (wd Z 0 : Nat), .int .u64 (wd Z 1 : Nat), .int .u64 (wd Z 2 : Nat), .int .u64 (wd Z 3 : Nat)] := by obtain ⟨xx, hx, hy⟩ := hc.ok 1 _ rfl rfl; exact (Option.some.inj (show some vv1 = some xx from hx)).trans hy
  have qq2 : vv2 = .bool true := by obtain ⟨xx, hx, hy⟩ := hc.ok 2 _ rfl rfl; exact (Option.some.inj (show some vv2 = some xx from hx)).trans hy
  have BZ := hc.bel
  clear hc
  have Na := Fa.out.on BZ
  have Nb := Fb.out.on BZ
  have Nq := Fq.out.on BZ
  have Nr := Fr.out.on BZ
  have NB := bel_tr BW.out BZ
  clear BW BZ Fa Fb Fq Fr
  subst qq0 qq1 qq2
  simp only [List.map_cons, List.map_nil, over, Act.put, List.setIfInBounds_toArray, List.set_cons_zero, List.set_cons_succ]
  refine wpAnyH_done (by kernel_rfl) ?_ _
  refine NoPanic.normal ?_
  have Fa := Lib.hid Na
  have Fb := Lib.hid Nb
  have Fq := Lib.hid Nq
  have Fr := Lib.hid Nr
  have BW := Lib.hid NB
  clear NB Na Nb Nq Nr
  go_wp2_with fail
  try simp only [List.append_eq, List.cons_append, List.nil_append]
  refine wp_region_noPanic ?_
  refine wp_region_held_drew (S := fun w' => At w' gq 24 #[.int .u64 (wd Z 0 : Nat), .int .u64 (wd Z 1 : Nat), .int .u64 (wd Z 2 : Nat), .int .u64 (wd Z 3 : Nat)] ∧ At w' gr 24 #[.int .u64 (wd Z 0 : Nat), .int .u64 (wd Z 1 : Nat), .int .u64 (wd Z 2 : Nat), .int .u64 (wd Z 3 : Nat)]) (by kernel_rfl) (⟨Fq.out.drew, Fr.out.drew⟩) (fun _ => ?_)
  refine wpAnyH_cores (fuel := 1) (⟨0, 22, [], Kind.val (.bool true), false⟩ :: ⟨1, 23, [0], Kind.val (.bool true), true⟩ :: ⟨2, 24, [1], Kind.val (.int .i64 1), true⟩ :: ⟨3, 25, [1, 2], Kind.val (.bool true), true⟩ :: ⟨4, 26, [1, 3], Kind.val (.bool true), true⟩ :: ⟨5, 27, [4], Kind.val (.bool true), true⟩ :: ⟨6, 28, [5], Kind.val (.agg #[.int .u64 (wd Z 0 : Nat), .int .u64 (wd Z 1 : Nat), .int .u64 (wd Z 2 : Nat), .int .u64 (wd Z 3 : Nat)]), true⟩ :: ⟨7, 29, [5, 6], Kind.val (.agg #[.int .u64 (wd Z 0 : Nat), .int .u64 (wd Z 1 : Nat), .int .u64 (wd Z 2 : Nat), .int .u64 (wd Z 3 : Nat)]), false⟩ :: ⟨8, 30, [5, 6, 7], Kind.val (.bool true), true⟩ :: ⟨9, 31, [5, 8], Kind.val (.bool true), true⟩ :: ⟨10, 32, [9], Kind.val (.bool true), true⟩ :: ⟨11, 33, [10], Kind.val (.agg #[.int .u64 (wd Z 0 : Nat), .int .u64 (wd Z 1 : Nat), .int .u64 (wd Z 2 : Nat), .int .u64 (wd Z 3 : Nat)]), true⟩ :: ⟨12, 34, [10, 11], Kind.val (.agg #[.int .u64 (wd Z 0 : Nat), .int .u64 (wd Z 1 : Nat), .int .u64 (wd Z 2 : Nat), .int .u64 (wd Z 3 : Nat)]), false⟩ :: ⟨13, 35, [10, 11, 12], Kind.val (.bool true), true⟩ :: ⟨14, 36, [10, 13], Kind.val (.bool true), true⟩ :: []) _ _ y4 _ ?_ ?_ ?_ ?_ ?_ ?_ ?_ ?_ ?_ ?_ ?_
  · rfl
  · kernel_rfl
  · exact of_decide_eq_true (by kernel_rfl)
  · exact all_cons ⟨_, by rfl, by rfl⟩ (all_cons ⟨_, by rfl, by rfl⟩ (all_cons ⟨_, by rfl, by rfl⟩ (all_cons ⟨_, by rfl, by rfl⟩ (all_cons ⟨_, by rfl, by rfl⟩ (all_cons ⟨_, by rfl, by rfl⟩ (all_cons ⟨_, by rfl, by rfl⟩ (all_cons ⟨_, by rfl, by rfl⟩ (all_cons ⟨_, by rfl, by rfl⟩ (all_cons ⟨_, by rfl, by rfl⟩ (all_cons ⟨_, by rfl, by rfl⟩ (all_cons ⟨_, by rfl, by rfl⟩ (all_cons ⟨_, by rfl, by rfl⟩ (all_cons ⟨_, by rfl, by rfl⟩ (all_cons ⟨_, by rfl, by rfl⟩ (all_nil)))))))))))))))
  · exact fun _ hb => ⟨Fq.out.on hb, Fr.out.on hb⟩
  · exact (Below.refl _ _).drew
  · kernel_rfl
  · exact fun _ _ _ _ _ h => h
  · refine all_cons ?_ (all_cons ?_ (all_cons ?_ (all_cons ?_ (all_cons ?_ (all_cons ?_ (all_cons ?_ (all_cons ?_ (all_cons ?_ (all_cons ?_ (all_cons ?_ (all_cons ?_ (all_cons ?_ (all_cons ?_ (all_cons ?_ (all_nil)))))))))))))))
    · exact core_pureAs _ (by rfl)
    · exact coreG_move _ _ _ _ _ _ _ (by rfl) (by rfl) (wants_none) (known_core 0 22 _ _ (of_decide_eq_true (by rfl)) (by rfl) (by rfl) (by rfl))
    · exact coreG_move _ _ _ _ _ _ _ (by rfl) (by rfl) (wants_core 1 23 1 _ _ _ (by rfl) (by rfl) (by rfl) (known_core 1 23 _ _ (of_decide_eq_true (by rfl)) (by rfl) (by rfl) (by rfl)) _ (by rfl)) (known_old 7 _ (of_decide_eq_true (by rfl)) (by rfl))
    · exact coreG_bin _ _ _ _ _ _ _ _ _ _ _ _ _ (by rfl) (by rfl) (wants_core 1 23 1 _ _ _ (by rfl) (by rfl) (by rfl) (known_core 1 23 _ _ (of_decide_eq_true (by rfl)) (by rfl) (by rfl) (by rfl)) _ (by rfl)) (known_core 2 24 _ _ (of_decide_eq_true (by rfl)) (by rfl) (by rfl) (by rfl)) (known_const _) ((fun ρ w hx hy => by simp only [execOp, hx, hy]; simp [go_sem]))
    · exact coreG_pick _ _ _ _ _ _ _ _ _ _ _ _ (by rfl) (by rfl) (wants_none) (known_core 1 23 _ _ (of_decide_eq_true (by rfl)) (by rfl) (by rfl) (by rfl)) (known_core 3 25 _ _ (of_decide_eq_true (by rfl)) (by rfl) (by rfl) (by rfl)) (known_const _) (by rfl)
    · exact coreG_move _ _ _ _ _ _ _ (by rfl) (by rfl) (wants_none) (known_core 4 26 _ _ (of_decide_eq_true (by rfl)) (by rfl) (by rfl) (by rfl))
    · exact coreG_loadP _ _ _ _ _ _ gq _ _ _ _ (by rfl) (by rfl) (wants_core 5 27 5 _ _ _ (by rfl) (by rfl) (by rfl) (known_core 5 27 _ _ (of_decide_eq_true (by rfl)) (by rfl) (by rfl) (by rfl)) _ (by rfl)) (known_old 5 _ (of_decide_eq_true (by rfl)) (by rfl)) (fun _ hs => hs.1)
    · exact core_pureAs _ (by rfl)
    · exact coreG_bin _ _ _ _ _ _ _ _ _ _ _ _ _ (by rfl) (by rfl) (wants_core 5 27 5 _ _ _ (by rfl) (by rfl) (by rfl) (known_core 5 27 _ _ (of_decide_eq_true (by rfl)) (by rfl) (by rfl) (by rfl)) _ (by rfl)) (known_core 6 28 _ _ (of_decide_eq_true (by rfl)) (by rfl) (by rfl) (by rfl)) (known_core 7 29 _ _ (of_decide_eq_true (by rfl)) (by rfl) (by rfl) (by rfl)) (eql_run true _ _ _ _ _ _ _ _ _ _ _ _ _ _ _ (eqY Z))
    · exact coreG_pick _ _ _ _ _ _ _ _ _ _ _ _ (by rfl) (by rfl) (wants_none) (known_core 5 27 _ _ (of_decide_eq_true (by rfl)) (by rfl) (by rfl) (by rfl)) (known_core 8 30 _ _ (of_decide_eq_true (by rfl)) (by rfl) (by rfl) (by rfl)) (known_const _) (by rfl)
    · exact coreG_move _ _ _ _ _ _ _ (by rfl) (by rfl) (wants_none) (known_core 9 31 _ _ (of_decide_eq_true (by rfl)) (by rfl) (by rfl) (by rfl))
    · exact coreG_loadP _ _ _ _ _ _ gr _ _ _ _ (by rfl) (by rfl) (wants_core 10 32 10 _ _ _ (by rfl) (by rfl) (by rfl) (known_core 10 32 _ _ (of_decide_eq_true (by rfl)) (by rfl) (by rfl) (by rfl)) _ (by rfl)) (known_old 6 _ (of_decide_eq_true (by rfl)) (by rfl)) (fun _ hs => hs.2)
    · exact core_pureAs _ (by rfl)
    · exact coreG_bin _ _ _ _ _ _ _ _ _ _ _ _ _ (by rfl) (by rfl) (wants_core 10 32 10 _ _ _ (by rfl) (by rfl) (by rfl) (known_core 10 32 _ _ (of_decide_eq_true (by rfl)) (by rfl) (by rfl) (by rfl)) _ (by rfl)) (known_core 11 33 _ _ (of_decide_eq_true (by rfl)) (by rfl) (by rfl) (by rfl)) (known_core 12 34 _ _ (of_decide_eq_true (by rfl)) (by rfl) (by rfl) (by rfl)) (eql_run true _ _ _ _ _ _ _ _ _ _ _ _ _ _ _ (eqY Z))
    · exact coreG_pick _ _ _ _ _ _ _ _ _ _ _ _ (by rfl) (by rfl) (wants_none) (known_core 10 32 _ _ (of_decide_eq_true (by rfl)) (by rfl) (by rfl) (by rfl)) (known_core 13 35 _ _ (of_decide_eq_true (by rfl)) (by rfl) (by rfl) (by rfl)) (known_const _) (by rfl)
  · refine all_cons ?_ (all_cons ?_ (all_cons ?_ (all_cons ?_ (all_cons ?_ (all_cons ?_ (all_cons ?_ (all_cons ?_ (all_cons ?_ (all_cons ?_ (all_cons ?_ (all_cons ?_ (all_cons ?_ (all_cons ?_ (all_cons ?_ (all_nil)))))))))))))))
    · exact fun _ => coreG_call _ 37 _ _ [] _ _ _ _ _ _ _ (by rfl) Try.func37 (by kernel_rfl) (by rfl) (by rfl) (wants_none) .nil (alive3_any)
    · exact core_stepAs _ (by rfl)
    · exact core_stepAs _ (by rfl)
    · exact core_stepAs _ (by rfl)
    · exact core_stepAs _ (by rfl)
    · exact core_stepAs _ (by rfl)
    · exact core_stepAs _ (by rfl)
    · exact fun _ => coreG_call _ 36 _ _ [.const (.int .u64 0)] _ _ _ _ _ _ _ (by rfl) Try.func36 (by kernel_rfl) (by rfl) (by rfl) (wants_core 5 27 5 _ _ _ (by rfl) (by rfl) (by rfl) (known_core 5 27 _ _ (of_decide_eq_true (by rfl)) (by rfl) (by rfl) (by rfl)) _ (by rfl)) (.cons (known_const _) .nil) (HO.out)
    · exact core_stepAs _ (by rfl)
    · exact core_stepAs _ (by rfl)
    · exact core_stepAs _ (by rfl)
    · exact core_stepAs _ (by rfl)
    · exact fun _ => coreG_call _ 36 _ _ [.const (.int .u64 0)] _ _ _ _ _ _ _ (by rfl) Try.func36 (by kernel_rfl) (by rfl) (by rfl) (wants_core 10 32 10 _ _ _ (by rfl) (by rfl) (by rfl) (known_core 10 32 _ _ (of_decide_eq_true (by rfl)) (by rfl) (by rfl) (by rfl)) _ (by rfl)) (.cons (known_const _) .nil) (HO.out)
    · exact core_stepAs _ (by rfl)
    · exact core_stepAs _ (by rfl)
  intro vs y5 hc
  have BZ := bel_tr BW.out hc.bel
  refine assign_one (i := 15) (.tmp 36) 4 _ _ _ (.bool true) (by kernel_rfl) (by rfl) (hc.at_ (of_decide_eq_true (by kernel_rfl)) (by rfl) 14 36 _ (.bool true) (by rfl) (by rfl) (by rfl)) (⟨Fq.out.on hc.bel, Fr.out.on hc.bel⟩) ?_
  refine wpAnyH_done (by kernel_rfl) ?_ _
  refine NoPanic.normal ?_
  generalize hA : Act.put (over _ _ vs) (some 4) (.bool true) = A
  have hA0 : A.tmps.getD 4 undef = .bool true := by rw [← hA]; exact put_at _ _ _ (by rw [over_size]; exact Nat.le_of_ble_eq_true rfl)
  have hAd : A.defers = [] := by rw [← hA, put_defers, over_defers]
  clear hA hc
  go_wp2_with fail
  refine bodyPost_ret (v := .bool true) (by simp [results, Try.results6, go_sem] at hA0 ⊢; simp [hA0]) hAd ⟨rfl, BZ⟩

set_option maxRecDepth 100000 in
set_option maxHeartbeats 8000000 in
theorem back_some (A B Z Q r : Nat) (CD : ∀ w, Calls Try.prog 30 #[num A, num B] w fun e w' => e = .returned (.tuple #[num Q, num r, .int .i64 0]) ∧ Below w.heap.size w w')
    (CO : ∀ w, Calls Try.prog 36 #[.int .u64 0] w fun e w' => e = .returned (num Z) ∧ Below w.heap.size w w')
    (EB : ∀ w : World, (Op.equalIn 10000 24 (num B) (num Z)).run Try.prog w = .ok false w) (L : Nat)
    (CM : ∀ w, Calls Try.prog 15 #[num Q, num B] w fun e w' => e = .returned (.tuple #[num L, num Z]) ∧ Below w.heap.size w w')
    (CA : ∀ w, Calls Try.prog 13 #[num L, num r] w fun e w' => e = .returned (.tuple #[num A, .int .u64 ((0 : Nat) : Int)]) ∧ Below w.heap.size w w')
    (CC : ∀ w, Calls Try.prog 21 #[num r, num B] w fun e w' => e = .returned (.int .i64 (-1)) ∧ Below w.heap.size w w') (w : World) :
    Calls Try.prog 6 #[num A, num B] w fun e w' => e = .returned (.bool true) ∧ Below w.heap.size w w' := by
  have HD := Lib.hid CD; have HO := Lib.hid CO; have HM := Lib.hid CM; have HA := Lib.hid CA; have HC := Lib.hid CC; have HE := Lib.hid EB
  clear CD CO CM CA CC EB
  go_enter Try.func6, Try.ntmps6
  go_wp2_with fail
  have BW := Lib.hid (Below.refl w.heap.size w)
  have Na : At ((w.alloc (.cells #[.int .u64 (wd A 0 : Nat), .int .u64 (wd A 1 : Nat), .int .u64 (wd A 2 : Nat), .int .u64 (wd A 3 : Nat)] 24)).alloc (.cells #[.int .u64 (wd B 0 : Nat), .int .u64 (wd B 1 : Nat), .int .u64 (wd B 2 : Nat), .int .u64 (wd B 3 : Nat)] 24)) (w.heap.size) 24 #[.int .u64 (wd A 0 : Nat), .int .u64 (wd A 1 : Nat), .int .u64 (wd A 2 : Nat), .int .u64 (wd A 3 : Nat)] := (At.at_ _ _ _ _ (by simp)).alloc _
  have Nb : At ((w.alloc (.cells #[.int .u64 (wd A 0 : Nat), .int .u64 (wd A 1 : Nat), .int .u64 (wd A 2 : Nat), .int .u64 (wd A 3 : Nat)] 24)).alloc (.cells #[.int .u64 (wd B 0 : Nat), .int .u64 (wd B 1 : Nat), .int .u64 (wd B 2 : Nat), .int .u64 (wd B 3 : Nat)] 24)) (w.heap.size + 1) 24 #[.int .u64 (wd B 0 : Nat), .int .u64 (wd B 1 : Nat), .int .u64 (wd B 2 : Nat), .int .u64 (wd B 3 : Nat)] := At.at_ _ _ _ _ (by simp)
  have NB : Below w.heap.size w ((w.alloc (.cells #[.int .u64 (wd A 0 : Nat), .int .u64 (wd A 1 : Nat), .int .u64 (wd A 2 : Nat), .int .u64 (wd A 3 : Nat)] 24)).alloc (.cells #[.int .u64 (wd B 0 : Nat), .int .u64 (wd B 1 : Nat), .int .u64 (wd B 2 : Nat), .int .u64 (wd B 3 : Nat)] 24)) := gr_alloc (gr_alloc BW.out _) _
  clear BW 
  generalize ((w.alloc (.cells #[.int .u64 (wd A 0 : Nat), .int .u64 (wd A 1 : Nat), .int .u64 (wd A 2 : Nat), .int .u64 (wd A 3 : Nat)] 24)).alloc (.cells #[.int .u64 (wd B 0 : Nat), .int .u64 (wd B 1 : Nat), .int .u64 (wd B 2 : Nat), .int .u64 (wd B 3 : Nat)] 24)) = W1 at *
  generalize w.heap.size + 1 = gb at *
  obtain ⟨ga, hg0⟩ : ∃ g, g = w.heap.size := ⟨_, rfl⟩
  rw [← hg0] at Na ⊢
  clear hg0
  have Fa := Lib.hid Na
  have Fb := Lib.hid Nb
  have BW := Lib.hid NB
  clear NB Na Nb
  refine (HD.out _).mono ?_
  rintro e v2 ⟨rfl, z2⟩
  have Na := Lib.hid (Fa.out.on z2)
  have Nb := Lib.hid (Fb.out.on z2)
  have NB := Lib.hid (bel_tr BW.out z2)
  clear BW z2 Fa Fb
  have Fa := Na
  have Fb := Nb
  have BW := NB
  clear NB Na Nb
  go_wp2_with fail
  have Nq : At ((v2.alloc (.cells #[.int .u64 (wd Q 0 : Nat), .int .u64 (wd Q 1 : Nat), .int .u64 (wd Q 2 : Nat), .int .u64 (wd Q 3 : Nat)] 24)).alloc (.cells #[.int .u64 (wd r 0 : Nat), .int .u64 (wd r 1 : Nat), .int .u64 (wd r 2 : Nat), .int .u64 (wd r 3 : Nat)] 24)) (v2.heap.size) 24 #[.int .u64 (wd Q 0 : Nat), .int .u64 (wd Q 1 : Nat), .int .u64 (wd Q 2 : Nat), .int .u64 (wd Q 3 : Nat)] := (At.at_ _ _ _ _ (by simp)).alloc _
  have Nr : At ((v2.alloc (.cells #[.int .u64 (wd Q 0 : Nat), .int .u64 (wd Q 1 : Nat), .int .u64 (wd Q 2 : Nat), .int .u64 (wd Q 3 : Nat)] 24)).alloc (.cells #[.int .u64 (wd r 0 : Nat), .int .u64 (wd r 1 : Nat), .int .u64 (wd r 2 : Nat), .int .u64 (wd r 3 : Nat)] 24)) (v2.heap.size + 1) 24 #[.int .u64 (wd r 0 : Nat), .int .u64 (wd r 1 : Nat), .int .u64 (wd r 2 : Nat), .int .u64 (wd r 3 : Nat)] := At.at_ _ _ _ _ (by simp)
  have Na : At ((v2.alloc (.cells #[.int .u64 (wd Q 0 : Nat), .int .u64 (wd Q 1 : Nat), .int .u64 (wd Q 2 : Nat), .int .u64 (wd Q 3 : Nat)] 24)).alloc (.cells #[.int .u64 (wd r 0 : Nat), .int .u64 (wd r 1 : Nat), .int .u64 (wd r 2 : Nat), .int .u64 (wd r 3 : Nat)] 24)) ga 24 #[.int .u64 (wd A 0 : Nat), .int .u64 (wd A 1 : Nat), .int .u64 (wd A 2 : Nat), .int .u64 (wd A 3 : Nat)] := (Fa.out.alloc _).alloc _
  have Nb : At ((v2.alloc (.cells #[.int .u64 (wd Q 0 : Nat), .int .u64 (wd Q 1 : Nat), .int .u64 (wd Q 2 : Nat), .int .u64 (wd Q 3 : Nat)] 24)).alloc (.cells #[.int .u64 (wd r 0 : Nat), .int .u64 (wd r 1 : Nat), .int .u64 (wd r 2 : Nat), .int .u64 (wd r 3 : Nat)] 24)) gb 24 #[.int .u64 (wd B 0 : Nat), .int .u64 (wd B 1 : Nat), .int .u64 (wd B 2 : Nat), .int .u64 (wd B 3 : Nat)] := (Fb.out.alloc _).alloc _
  have NB : Below w.heap.size w ((v2.alloc (.cells #[.int .u64 (wd Q 0 : Nat), .int .u64 (wd Q 1 : Nat), .int .u64 (wd Q 2 : Nat), .int .u64 (wd Q 3 : Nat)] 24)).alloc (.cells #[.int .u64 (wd r 0 : Nat), .int .u64 (wd r 1 : Nat), .int .u64 (wd r 2 : Nat), .int .u64 (wd r 3 : Nat)] 24)) := gr_alloc (gr_alloc BW.out _) _
  clear BW Fa Fb
  generalize ((v2.alloc (.cells #[.int .u64 (wd Q 0 : Nat), .int .u64 (wd Q 1 : Nat), .int .u64 (wd Q 2 : Nat), .int .u64 (wd Q 3 : Nat)] 24)).alloc (.cells #[.int .u64 (wd r 0 : Nat), .int .u64 (wd r 1 : Nat), .int .u64 (wd r 2 : Nat), .int .u64 (wd r 3 : Nat)] 24)) = W3 at *
  generalize v2.heap.size + 1 = gr at *
  generalize v2.heap.size = gq at *
  have Fa := Lib.hid Na
  have Fb := Lib.hid Nb
  have Fq := Lib.hid Nq
  have Fr := Lib.hid Nr
  have BW := Lib.hid NB
  clear NB Na Nb Nq Nr
  try simp only [List.append_eq, List.cons_append, List.nil_append]
  refine wp_region_noPanic ?_
  refine wp_region_held_drew (S := fun w' => At w' gb 24 #[.int .u64 (wd B 0 : Nat), .int .u64 (wd B 1 : Nat), .int .u64 (wd B 2 : Nat), .int .u64 (wd B 3 : Nat)]) (by kernel_rfl) (Fb.out.drew) (fun _ => ?_)
  refine wpAnyH_cores (fuel := 0) (⟨0, 19, [], Kind.val (.agg #[.int .u64 (wd B 0 : Nat), .int .u64 (wd B 1 : Nat), .int .u64 (wd B 2 : Nat), .int .u64 (wd B 3 : Nat)]), true⟩ :: ⟨1, 20, [0], Kind.val (.agg #[.int .u64 (wd Z 0 : Nat), .int .u64 (wd Z 1 : Nat), .int .u64 (wd Z 2 : Nat), .int .u64 (wd Z 3 : Nat)]), false⟩ :: ⟨2, 21, [0, 1], Kind.val (.bool false), true⟩ :: []) _ _ W3 _ ?_ ?_ ?_ ?_ ?_ ?_ ?_ ?_ ?_ ?_ ?_
  · rfl
  · kernel_rfl
  · exact of_decide_eq_true (by kernel_rfl)
  · exact all_cons ⟨_, by rfl, by rfl⟩ (all_cons ⟨_, by rfl, by rfl⟩ (all_cons ⟨_, by rfl, by rfl⟩ (all_nil)))
  · exact fun _ hb => Fb.out.on hb
  · exact (Below.refl _ _).drew
  · kernel_rfl
  · exact fun _ _ _ _ _ h => h
  · refine all_cons ?_ (all_cons ?_ (all_cons ?_ (all_nil)))
    · exact coreG_loadP _ _ _ _ _ _ gb _ _ _ _ (by rfl) (by rfl) (wants_none) (known_old 3 _ (of_decide_eq_true (by rfl)) (by rfl)) (fun _ hs => hs)
    · exact core_pureAs _ (by rfl)
    · exact coreG_bin _ _ _ _ _ _ _ _ _ _ _ _ _ (by rfl) (by rfl) (wants_none) (known_core 0 19 _ _ (of_decide_eq_true (by rfl)) (by rfl) (by rfl) (by rfl)) (known_core 1 20 _ _ (of_decide_eq_true (by rfl)) (by rfl) (by rfl) (by rfl)) (eql_run false _ _ _ _ _ _ _ _ _ _ _ _ _ _ _ (HE.out))
  · refine all_cons ?_ (all_cons ?_ (all_cons ?_ (all_nil)))
    · exact core_stepAs _ (by rfl)
    · exact fun _ => coreG_call _ 36 _ _ [.const (.int .u64 0)] _ _ _ _ _ _ _ (by rfl) Try.func36 (by kernel_rfl) (by rfl) (by rfl) (wants_none) (.cons (known_const _) .nil) (HO.out)
    · exact core_stepAs _ (by rfl)
  intro vs y4 hc
  obtain ⟨vv0, vv1, vv2, rfl⟩ := len3 vs hc.lv
  have qq0 : vv0 = .agg #[.int .u64 (wd B 0 : Nat), .int .u64 (wd B 1 : Nat), .int .u64 (wd B 2 : Nat), .int .u64 (wd B 3 : Nat)] := by obtain ⟨xx, hx, hy⟩ := hc.ok 0 _ rfl rfl; exact (Option.some.inj (show some vv0 = some xx from hx)).trans hy
  have qq1 : vv1 = .agg #[.int .u64 (wd Z 0 : Nat), .int .u64 (wd Z 1 : Nat), .int .u64 (wd Z 2 : Nat), .int .u64 (wd Z 3 : Nat)] := by obtain ⟨xx, hx, hy⟩ := hc.ok 1 _ rfl rfl; exact (Option.some.inj (show some vv1 = some xx from hx)).trans hy
  have qq2 : vv2 = .bool false := by obtain ⟨xx, hx, hy⟩ := hc.ok 2 _ rfl rfl; exact (Option.some.inj (show some vv2 = some xx from hx)).trans hy
  have BZ := hc.bel
  clear hc
  have Na := Fa.out.on BZ
  have Nb := Fb.out.on BZ
  have Nq := Fq.out.on BZ
  have Nr := Fr.out.on BZ
  have NB := bel_tr BW.out BZ
  clear BW BZ Fa Fb Fq Fr
  subst qq0 qq1 qq2
  simp only [List.map_cons, List.map_nil, over, Act.put, List.setIfInBounds_toArray, List.set_cons_zero, List.set_cons_succ]
  refine wpAnyH_done (by kernel_rfl) ?_ _
  refine NoPanic.normal ?_
  have Fa := Lib.hid Na
  have Fb := Lib.hid Nb
  have Fq := Lib.hid Nq
  have Fr := Lib.hid Nr
  have BW := Lib.hid NB
  clear NB Na Nb Nq Nr
  have Lq := Fq.out.lt
  have cq0 : y4.cell? ⟨gq, 0, none⟩ = some (.int .u64 (wd Q 0 : Nat)) := Fq.out.cell 0
  have cq1 : y4.cell? ⟨gq, 1, none⟩ = some (.int .u64 (wd Q 1 : Nat)) := Fq.out.cell 1
  have cq2 : y4.cell? ⟨gq, 2, none⟩ = some (.int .u64 (wd Q 2 : Nat)) := Fq.out.cell 2
  have cq3 : y4.cell? ⟨gq, 3, none⟩ = some (.int .u64 (wd Q 3 : Nat)) := Fq.out.cell 3
  have Lb := Fb.out.lt
  have cb0 : y4.cell? ⟨gb, 0, none⟩ = some (.int .u64 (wd B 0 : Nat)) := Fb.out.cell 0
  have cb1 : y4.cell? ⟨gb, 1, none⟩ = some (.int .u64 (wd B 1 : Nat)) := Fb.out.cell 1
  have cb2 : y4.cell? ⟨gb, 2, none⟩ = some (.int .u64 (wd B 2 : Nat)) := Fb.out.cell 2
  have cb3 : y4.cell? ⟨gb, 3, none⟩ = some (.int .u64 (wd B 3 : Nat)) := Fb.out.cell 3
  go_wp2_with fail
  clear Lq cq0 cq1 cq2 cq3 Lb cb0 cb1 cb2 cb3
  refine (HM.out _).mono ?_
  rintro e v5 ⟨rfl, z5⟩
  have Na := Lib.hid (Fa.out.on z5)
  have Nb := Lib.hid (Fb.out.on z5)
  have Nq := Lib.hid (Fq.out.on z5)
  have Nr := Lib.hid (Fr.out.on z5)
  have NB := Lib.hid (bel_tr BW.out z5)
  clear BW z5 Fa Fb Fq Fr
  have Fa := Na
  have Fb := Nb
  have Fq := Nq
  have Fr := Nr
  have BW := NB
  clear NB Na Nb Nq Nr
  have Lr := Fr.out.lt
  have cr0 : v5.cell? ⟨gr, 0, none⟩ = some (.int .u64 (wd r 0 : Nat)) := Fr.out.cell 0
  have cr1 : v5.cell? ⟨gr, 1, none⟩ = some (.int .u64 (wd r 1 : Nat)) := Fr.out.cell 1
  have cr2 : v5.cell? ⟨gr, 2, none⟩ = some (.int .u64 (wd r 2 : Nat)) := Fr.out.cell 2
  have cr3 : v5.cell? ⟨gr, 3, none⟩ = some (.int .u64 (wd r 3 : Nat)) := Fr.out.cell 3
  go_wp2_with fail
  clear Lr cr0 cr1 cr2 cr3
  have Nlo : At ((v5.alloc (.cells #[.int .u64 (wd L 0 : Nat), .int .u64 (wd L 1 : Nat), .int .u64 (wd L 2 : Nat), .int .u64 (wd L 3 : Nat)] 24)).alloc (.cells #[.int .u64 (wd Z 0 : Nat), .int .u64 (wd Z 1 : Nat), .int .u64 (wd Z 2 : Nat), .int .u64 (wd Z 3 : Nat)] 24)) (v5.heap.size) 24 #[.int .u64 (wd L 0 : Nat), .int .u64 (wd L 1 : Nat), .int .u64 (wd L 2 : Nat), .int .u64 (wd L 3 : Nat)] := (At.at_ _ _ _ _ (by simp)).alloc _
  have Nhi : At ((v5.alloc (.cells #[.int .u64 (wd L 0 : Nat), .int .u64 (wd L 1 : Nat), .int .u64 (wd L 2 : Nat), .int .u64 (wd L 3 : Nat)] 24)).alloc (.cells #[.int .u64 (wd Z 0 : Nat), .int .u64 (wd Z 1 : Nat), .int .u64 (wd Z 2 : Nat), .int .u64 (wd Z 3 : Nat)] 24)) (v5.heap.size + 1) 24 #[.int .u64 (wd Z 0 : Nat), .int .u64 (wd Z 1 : Nat), .int .u64 (wd Z 2 : Nat), .int .u64 (wd Z 3 : Nat)] := At.at_ _ _ _ _ (by simp)
  have Na : At ((v5.alloc (.cells #[.int .u64 (wd L 0 : Nat), .int .u64 (wd L 1 : Nat), .int .u64 (wd L 2 : Nat), .int .u64 (wd L 3 : Nat)] 24)).alloc (.cells #[.int .u64 (wd Z 0 : Nat), .int .u64 (wd Z 1 : Nat), .int .u64 (wd Z 2 : Nat), .int .u64 (wd Z 3 : Nat)] 24)) ga 24 #[.int .u64 (wd A 0 : Nat), .int .u64 (wd A 1 : Nat), .int .u64 (wd A 2 : Nat), .int .u64 (wd A 3 : Nat)] := (Fa.out.alloc _).alloc _
  have Nb : At ((v5.alloc (.cells #[.int .u64 (wd L 0 : Nat), .int .u64 (wd L 1 : Nat), .int .u64 (wd L 2 : Nat), .int .u64 (wd L 3 : Nat)] 24)).alloc (.cells #[.int .u64 (wd Z 0 : Nat), .int .u64 (wd Z 1 : Nat), .int .u64 (wd Z 2 : Nat), .int .u64 (wd Z 3 : Nat)] 24)) gb 24 #[.int .u64 (wd B 0 : Nat), .int .u64 (wd B 1 : Nat), .int .u64 (wd B 2 : Nat), .int .u64 (wd B 3 : Nat)] := (Fb.out.alloc _).alloc _
  have Nq : At ((v5.alloc (.cells #[.int .u64 (wd L 0 : Nat), .int .u64 (wd L 1 : Nat), .int .u64 (wd L 2 : Nat), .int .u64 (wd L 3 : Nat)] 24)).alloc (.cells #[.int .u64 (wd Z 0 : Nat), .int .u64 (wd Z 1 : Nat), .int .u64 (wd Z 2 : Nat), .int .u64 (wd Z 3 : Nat)] 24)) gq 24 #[.int .u64 (wd Q 0 : Nat), .int .u64 (wd Q 1 : Nat), .int .u64 (wd Q 2 : Nat), .int .u64 (wd Q 3 : Nat)] := (Fq.out.alloc _).alloc _
  have Nr : At ((v5.alloc (.cells #[.int .u64 (wd L 0 : Nat), .int .u64 (wd L 1 : Nat), .int .u64 (wd L 2 : Nat), .int .u64 (wd L 3 : Nat)] 24)).alloc (.cells #[.int .u64 (wd Z 0 : Nat), .int .u64 (wd Z 1 : Nat), .int .u64 (wd Z 2 : Nat), .int .u64 (wd Z 3 : Nat)] 24)) gr 24 #[.int .u64 (wd r 0 : Nat), .int .u64 (wd r 1 : Nat), .int .u64 (wd r 2 : Nat), .int .u64 (wd r 3 : Nat)] := (Fr.out.alloc _).alloc _
  have NB : Below w.heap.size w ((v5.alloc (.cells #[.int .u64 (wd L 0 : Nat), .int .u64 (wd L 1 : Nat), .int .u64 (wd L 2 : Nat), .int .u64 (wd L 3 : Nat)] 24)).alloc (.cells #[.int .u64 (wd Z 0 : Nat), .int .u64 (wd Z 1 : Nat), .int .u64 (wd Z 2 : Nat), .int .u64 (wd Z 3 : Nat)] 24)) := gr_alloc (gr_alloc BW.out _) _
  clear BW Fa Fb Fq Fr
  generalize ((v5.alloc (.cells #[.int .u64 (wd L 0 : Nat), .int .u64 (wd L 1 : Nat), .int .u64 (wd L 2 : Nat), .int .u64 (wd L 3 : Nat)] 24)).alloc (.cells #[.int .u64 (wd Z 0 : Nat), .int .u64 (wd Z 1 : Nat), .int .u64 (wd Z 2 : Nat), .int .u64 (wd Z 3 : Nat)] 24)) = W6 at *
  generalize v5.heap.size + 1 = ghi at *
  generalize v5.heap.size = glo at *
  have Fa := Lib.hid Na
  have Fb := Lib.hid Nb
  have Fq := Lib.hid Nq
  have Fr := Lib.hid Nr
  have Flo := Lib.hid Nlo
  have Fhi := Lib.hid Nhi
  have BW := Lib.hid NB
  clear NB Na Nb Nq Nr Nlo Nhi
  refine (HA.out _).mono ?_
  rintro e v7 ⟨rfl, z7⟩
  have Na := Lib.hid (Fa.out.on z7)
  have Nb := Lib.hid (Fb.out.on z7)
  have Nq := Lib.hid (Fq.out.on z7)
  have Nr := Lib.hid (Fr.out.on z7)
  have Nlo := Lib.hid (Flo.out.on z7)
  have Nhi := Lib.hid (Fhi.out.on z7)
  have NB := Lib.hid (bel_tr BW.out z7)
  clear BW z7 Fa Fb Fq Fr Flo Fhi
  have Fa := Na
  have Fb := Nb
  have Fq := Nq
  have Fr := Nr
  have Flo := Nlo
  have Fhi := Nhi
  have BW := NB
  clear NB Na Nb Nq Nr Nlo Nhi
  go_wp2_with fail
  have Ns : At (v7.alloc (.cells #[.int .u64 (wd A 0 : Nat), .int .u64 (wd A 1 : Nat), .int .u64 (wd A 2 : Nat), .int .u64 (wd A 3 : Nat)] 24)) (v7.heap.size) 24 #[.int .u64 (wd A 0 : Nat), .int .u64 (wd A 1 : Nat), .int .u64 (wd A 2 : Nat), .int .u64 (wd A 3 : Nat)] := At.at_ _ _ _ _ (by simp)
  have Na : At (v7.alloc (.cells #[.int .u64 (wd A 0 : Nat), .int .u64 (wd A 1 : Nat), .int .u64 (wd A 2 : Nat), .int .u64 (wd A 3 : Nat)] 24)) ga 24 #[.int .u64 (wd A 0 : Nat), .int .u64 (wd A 1 : Nat), .int .u64 (wd A 2 : Nat), .int .u64 (wd A 3 : Nat)] := Fa.out.alloc _
  have Nb : At (v7.alloc (.cells #[.int .u64 (wd A 0 : Nat), .int .u64 (wd A 1 : Nat), .int .u64 (wd A 2 : Nat), .int .u64 (wd A 3 : Nat)] 24)) gb 24 #[.int .u64 (wd B 0 : Nat), .int .u64 (wd B 1 : Nat), .int .u64 (wd B 2 : Nat), .int .u64 (wd B 3 : Nat)] := Fb.out.alloc _
  have Nq : At (v7.alloc (.cells #[.int .u64 (wd A 0 : Nat), .int .u64 (wd A 1 : Nat), .int .u64 (wd A 2 : Nat), .int .u64 (wd A 3 : Nat)] 24)) gq 24 #[.int .u64 (wd Q 0 : Nat), .int .u64 (wd Q 1 : Nat), .int .u64 (wd Q 2 : Nat), .int .u64 (wd Q 3 : Nat)] := Fq.out.alloc _
  have Nr : At (v7.alloc (.cells #[.int .u64 (wd A 0 : Nat), .int .u64 (wd A 1 : Nat), .int .u64 (wd A 2 : Nat), .int .u64 (wd A 3 : Nat)] 24)) gr 24 #[.int .u64 (wd r 0 : Nat), .int .u64 (wd r 1 : Nat), .int .u64 (wd r 2 : Nat), .int .u64 (wd r 3 : Nat)] := Fr.out.alloc _
  have Nlo : At (v7.alloc (.cells #[.int .u64 (wd A 0 : Nat), .int .u64 (wd A 1 : Nat), .int .u64 (wd A 2 : Nat), .int .u64 (wd A 3 : Nat)] 24)) glo 24 #[.int .u64 (wd L 0 : Nat), .int .u64 (wd L 1 : Nat), .int .u64 (wd L 2 : Nat), .int .u64 (wd L 3 : Nat)] := Flo.out.alloc _
  have Nhi : At (v7.alloc (.cells #[.int .u64 (wd A 0 : Nat), .int .u64 (wd A 1 : Nat), .int .u64 (wd A 2 : Nat), .int .u64 (wd A 3 : Nat)] 24)) ghi 24 #[.int .u64 (wd Z 0 : Nat), .int .u64 (wd Z 1 : Nat), .int .u64 (wd Z 2 : Nat), .int .u64 (wd Z 3 : Nat)] := Fhi.out.alloc _
  have NB : Below w.heap.size w (v7.alloc (.cells #[.int .u64 (wd A 0 : Nat), .int .u64 (wd A 1 : Nat), .int .u64 (wd A 2 : Nat), .int .u64 (wd A 3 : Nat)] 24)) := gr_alloc BW.out _
  clear BW Fa Fb Fq Fr Flo Fhi
  generalize (v7.alloc (.cells #[.int .u64 (wd A 0 : Nat), .int .u64 (wd A 1 : Nat), .int .u64 (wd A 2 : Nat), .int .u64 (wd A 3 : Nat)] 24)) = W8 at *
  generalize v7.heap.size = gs at *
  have Fa := Lib.hid Na
  have Fb := Lib.hid Nb
  have Fq := Lib.hid Nq
  have Fr := Lib.hid Nr
  have Flo := Lib.hid Nlo
  have Fhi := Lib.hid Nhi
  have Fs := Lib.hid Ns
  have BW := Lib.hid NB
  clear NB Na Nb Nq Nr Nlo Nhi Ns
  try simp only [List.append_eq, List.cons_append, List.nil_append]
  refine wp_region_noPanic ?_
  refine wp_region_held_drew (S := fun w' => At w' ghi 24 #[.int .u64 (wd Z 0 : Nat), .int .u64 (wd Z 1 : Nat), .int .u64 (wd Z 2 : Nat), .int .u64 (wd Z 3 : Nat)] ∧ At w' gs 24 #[.int .u64 (wd A 0 : Nat), .int .u64 (wd A 1 : Nat), .int .u64 (wd A 2 : Nat), .int .u64 (wd A 3 : Nat)] ∧ At w' ga 24 #[.int .u64 (wd A 0 : Nat), .int .u64 (wd A 1 : Nat), .int .u64 (wd A 2 : Nat), .int .u64 (wd A 3 : Nat)] ∧ At w' gr 24 #[.int .u64 (wd r 0 : Nat), .int .u64 (wd r 1 : Nat), .int .u64 (wd r 2 : Nat), .int .u64 (wd r 3 : Nat)] ∧ At w' gb 24 #[.int .u64 (wd B 0 : Nat), .int .u64 (wd B 1 : Nat), .int .u64 (wd B 2 : Nat), .int .u64 (wd B 3 : Nat)]) (by kernel_rfl) (⟨Fhi.out.drew, Fs.out.drew, Fa.out.drew, Fr.out.drew, Fb.out.drew⟩) (fun _ => ?_)
  refine wpAnyH_cores (fuel := 1) (⟨0, 49, [], Kind.val (.bool true), false⟩ :: ⟨1, 50, [0], Kind.val (.bool true), true⟩ :: ⟨2, 51, [1], Kind.val (.int .i64 0), true⟩ :: ⟨3, 52, [1, 2], Kind.val (.bool true), true⟩ :: ⟨4, 53, [1, 3], Kind.val (.bool true), true⟩ :: ⟨5, 54, [4], Kind.val (.bool true), true⟩ :: ⟨6, 55, [5], Kind.val (.agg #[.int .u64 (wd Z 0 : Nat), .int .u64 (wd Z 1 : Nat), .int .u64 (wd Z 2 : Nat), .int .u64 (wd Z 3 : Nat)]), true⟩ :: ⟨7, 56, [5, 6], Kind.val (.agg #[.int .u64 (wd Z 0 : Nat), .int .u64 (wd Z 1 : Nat), .int .u64 (wd Z 2 : Nat), .int .u64 (wd Z 3 : Nat)]), false⟩ :: ⟨8, 57, [5, 6, 7], Kind.val (.bool true), true⟩ :: ⟨9, 58, [5, 8], Kind.val (.bool true), true⟩ :: ⟨10, 59, [9], Kind.val (.bool true), true⟩ :: ⟨11, 60, [10], Kind.val (.int .u64 ((0 : Nat) : Int)), true⟩ :: ⟨12, 61, [10, 11], Kind.val (.bool true), true⟩ :: ⟨13, 62, [10, 12], Kind.val (.bool true), true⟩ :: ⟨14, 63, [13], Kind.val (.bool true), true⟩ :: ⟨15, 64, [14], Kind.val (.agg #[.int .u64 (wd A 0 : Nat), .int .u64 (wd A 1 : Nat), .int .u64 (wd A 2 : Nat), .int .u64 (wd A 3 : Nat)]), true⟩ :: ⟨16, 65, [14, 15], Kind.val (.agg #[.int .u64 (wd A 0 : Nat), .int .u64 (wd A 1 : Nat), .int .u64 (wd A 2 : Nat), .int .u64 (wd A 3 : Nat)]), true⟩ :: ⟨17, 66, [14, 15, 16], Kind.val (.bool true), true⟩ :: ⟨18, 67, [14, 17], Kind.val (.bool true), true⟩ :: ⟨19, 68, [18], Kind.val (.bool true), true⟩ :: ⟨20, 69, [19], Kind.val (.agg #[.int .u64 (wd r 0 : Nat), .int .u64 (wd r 1 : Nat), .int .u64 (wd r 2 : Nat), .int .u64 (wd r 3 : Nat)]), true⟩ :: ⟨21, 70, [19, 20], Kind.val (.agg #[.int .u64 (wd B 0 : Nat), .int .u64 (wd B 1 : Nat), .int .u64 (wd B 2 : Nat), .int .u64 (wd B 3 : Nat)]), true⟩ :: ⟨22, 71, [19, 20, 21], Kind.val (.int .i64 (-1)), false⟩ :: ⟨23, 72, [19, 22], Kind.val (.bool true), true⟩ :: ⟨24, 73, [19, 23], Kind.val (.bool true), true⟩ :: []) _ _ W8 _ ?_ ?_ ?_ ?_ ?_ ?_ ?_ ?_ ?_ ?_ ?_
  · rfl
  · kernel_rfl
  · exact of_decide_eq_true (by kernel_rfl)
  · exact all_cons ⟨_, by rfl, by rfl⟩ (all_cons ⟨_, by rfl, by rfl⟩ (all_cons ⟨_, by rfl, by rfl⟩ (all_cons ⟨_, by rfl, by rfl⟩ (all_cons ⟨_, by rfl, by rfl⟩ (all_cons ⟨_, by rfl, by rfl⟩ (all_cons ⟨_, by rfl, by rfl⟩ (all_cons ⟨_, by rfl, by rfl⟩ (all_cons ⟨_, by rfl, by rfl⟩ (all_cons ⟨_, by rfl, by rfl⟩ (all_cons ⟨_, by rfl, by rfl⟩ (all_cons ⟨_, by rfl, by rfl⟩ (all_cons ⟨_, by rfl, by rfl⟩ (all_cons ⟨_, by rfl, by rfl⟩ (all_cons ⟨_, by rfl, by rfl⟩ (all_cons ⟨_, by rfl, by rfl⟩ (all_cons ⟨_, by rfl, by rfl⟩ (all_cons ⟨_, by rfl, by rfl⟩ (all_cons ⟨_, by rfl, by rfl⟩ (all_cons ⟨_, by rfl, by rfl⟩ (all_cons ⟨_, by rfl, by rfl⟩ (all_cons ⟨_, by rfl, by rfl⟩ (all_cons ⟨_, by rfl, by rfl⟩ (all_cons ⟨_, by rfl, by rfl⟩ (all_cons ⟨_, by rfl, by rfl⟩ (all_nil)))))))))))))))))))))))))
  · exact fun _ hb => ⟨Fhi.out.on hb, Fs.out.on hb, Fa.out.on hb, Fr.out.on hb, Fb.out.on hb⟩
  · exact (Below.refl _ _).drew
  · kernel_rfl
  · exact fun _ _ _ _ _ h => h
  · refine all_cons ?_ (all_cons ?_ (all_cons ?_ (all_cons ?_ (all_cons ?_ (all_cons ?_ (all_cons ?_ (all_cons ?_ (all_cons ?_ (all_cons ?_ (all_cons ?_ (all_cons ?_ (all_cons ?_ (all_cons ?_ (all_cons ?_ (all_cons ?_ (all_cons ?_ (all_cons ?_ (all_cons ?_ (all_cons ?_ (all_cons ?_ (all_cons ?_ (all_cons ?_ (all_cons ?_ (all_cons ?_ (all_nil)))))))))))))))))))))))))
    · exact core_pureAs _ (by rfl)
    · exact coreG_move _ _ _ _ _ _ _ (by rfl) (by rfl) (wants_none) (known_core 0 49 _ _ (of_decide_eq_true (by rfl)) (by rfl) (by rfl) (by rfl))
    · exact coreG_move _ _ _ _ _ _ _ (by rfl) (by rfl) (wants_core 1 50 1 _ _ _ (by rfl) (by rfl) (by rfl) (known_core 1 50 _ _ (of_decide_eq_true (by rfl)) (by rfl) (by rfl) (by rfl)) _ (by rfl)) (known_old 7 _ (of_decide_eq_true (by rfl)) (by rfl))
    · exact coreG_bin _ _ _ _ _ _ _ _ _ _ _ _ _ (by rfl) (by rfl) (wants_core 1 50 1 _ _ _ (by rfl) (by rfl) (by rfl) (known_core 1 50 _ _ (of_decide_eq_true (by rfl)) (by rfl) (by rfl) (by rfl)) _ (by rfl)) (known_core 2 51 _ _ (of_decide_eq_true (by rfl)) (by rfl) (by rfl) (by rfl)) (known_const _) ((fun ρ w hx hy => by simp only [execOp, hx, hy]; simp [go_sem]))
    · exact coreG_pick _ _ _ _ _ _ _ _ _ _ _ _ (by rfl) (by rfl) (wants_none) (known_core 1 50 _ _ (of_decide_eq_true (by rfl)) (by rfl) (by rfl) (by rfl)) (known_core 3 52 _ _ (of_decide_eq_true (by rfl)) (by rfl) (by rfl) (by rfl)) (known_const _) (by rfl)
    · exact coreG_move _ _ _ _ _ _ _ (by rfl) (by rfl) (wants_none) (known_core 4 53 _ _ (of_decide_eq_true (by rfl)) (by rfl) (by rfl) (by rfl))
    · exact coreG_loadP _ _ _ _ _ _ ghi _ _ _ _ (by rfl) (by rfl) (wants_core 5 54 5 _ _ _ (by rfl) (by rfl) (by rfl) (known_core 5 54 _ _ (of_decide_eq_true (by rfl)) (by rfl) (by rfl) (by rfl)) _ (by rfl)) (known_old 9 _ (of_decide_eq_true (by rfl)) (by rfl)) (fun _ hs => hs.1)
    · exact core_pureAs _ (by rfl)
    · exact coreG_bin _ _ _ _ _ _ _ _ _ _ _ _ _ (by rfl) (by rfl) (wants_core 5 54 5 _ _ _ (by rfl) (by rfl) (by rfl) (known_core 5 54 _ _ (of_decide_eq_true (by rfl)) (by rfl) (by rfl) (by rfl)) _ (by rfl)) (known_core 6 55 _ _ (of_decide_eq_true (by rfl)) (by rfl) (by rfl) (by rfl)) (known_core 7 56 _ _ (of_decide_eq_true (by rfl)) (by rfl) (by rfl) (by rfl)) (eql_run true _ _ _ _ _ _ _ _ _ _ _ _ _ _ _ (eqY Z))
    · exact coreG_pick _ _ _ _ _ _ _ _ _ _ _ _ (by rfl) (by rfl) (wants_none) (known_core 5 54 _ _ (of_decide_eq_true (by rfl)) (by rfl) (by rfl) (by rfl)) (known_core 8 57 _ _ (of_decide_eq_true (by rfl)) (by rfl) (by rfl) (by rfl)) (known_const _) (by rfl)
    · exact coreG_move _ _ _ _ _ _ _ (by rfl) (by rfl) (wants_none) (known_core 9 58 _ _ (of_decide_eq_true (by rfl)) (by rfl) (by rfl) (by rfl))
    · exact coreG_move _ _ _ _ _ _ _ (by rfl) (by rfl) (wants_core 10 59 10 _ _ _ (by rfl) (by rfl) (by rfl) (known_core 10 59 _ _ (of_decide_eq_true (by rfl)) (by rfl) (by rfl) (by rfl)) _ (by rfl)) (known_old 11 _ (of_decide_eq_true (by rfl)) (by rfl))
    · exact coreG_bin _ _ _ _ _ _ _ _ _ _ _ _ _ (by rfl) (by rfl) (wants_core 10 59 10 _ _ _ (by rfl) (by rfl) (by rfl) (known_core 10 59 _ _ (of_decide_eq_true (by rfl)) (by rfl) (by rfl) (by rfl)) _ (by rfl)) (known_core 11 60 _ _ (of_decide_eq_true (by rfl)) (by rfl) (by rfl) (by rfl)) (known_const _) ((fun ρ w hx hy => by simp only [execOp, hx, hy]; simp [go_sem]))
    · exact coreG_pick _ _ _ _ _ _ _ _ _ _ _ _ (by rfl) (by rfl) (wants_none) (known_core 10 59 _ _ (of_decide_eq_true (by rfl)) (by rfl) (by rfl) (by rfl)) (known_core 12 61 _ _ (of_decide_eq_true (by rfl)) (by rfl) (by rfl) (by rfl)) (known_const _) (by rfl)
    · exact coreG_move _ _ _ _ _ _ _ (by rfl) (by rfl) (wants_none) (known_core 13 62 _ _ (of_decide_eq_true (by rfl)) (by rfl) (by rfl) (by rfl))
    · exact coreG_loadP _ _ _ _ _ _ gs _ _ _ _ (by rfl) (by rfl) (wants_core 14 63 14 _ _ _ (by rfl) (by rfl) (by rfl) (known_core 14 63 _ _ (of_decide_eq_true (by rfl)) (by rfl) (by rfl) (by rfl)) _ (by rfl)) (known_old 10 _ (of_decide_eq_true (by rfl)) (by rfl)) (fun _ hs => hs.2.1)
    · exact coreG_loadP _ _ _ _ _ _ ga _ _ _ _ (by rfl) (by rfl) (wants_core 14 63 14 _ _ _ (by rfl) (by rfl) (by rfl) (known_core 14 63 _ _ (of_decide_eq_true (by rfl)) (by rfl) (by rfl) (by rfl)) _ (by rfl)) (known_old 2 _ (of_decide_eq_true (by rfl)) (by rfl)) (fun _ hs => hs.2.2.1)
    · exact coreG_bin _ _ _ _ _ _ _ _ _ _ _ _ _ (by rfl) (by rfl) (wants_core 14 63 14 _ _ _ (by rfl) (by rfl) (by rfl) (known_core 14 63 _ _ (of_decide_eq_true (by rfl)) (by rfl) (by rfl) (by rfl)) _ (by rfl)) (known_core 15 64 _ _ (of_decide_eq_true (by rfl)) (by rfl) (by rfl) (by rfl)) (known_core 16 65 _ _ (of_decide_eq_true (by rfl)) (by rfl) (by rfl) (by rfl)) (eql_run true _ _ _ _ _ _ _ _ _ _ _ _ _ _ _ (eqY A))
    · exact coreG_pick _ _ _ _ _ _ _ _ _ _ _ _ (by rfl) (by rfl) (wants_none) (known_core 14 63 _ _ (of_decide_eq_true (by rfl)) (by rfl) (by rfl) (by rfl)) (known_core 17 66 _ _ (of_decide_eq_true (by rfl)) (by rfl) (by rfl) (by rfl)) (known_const _) (by rfl)
    · exact coreG_move _ _ _ _ _ _ _ (by rfl) (by rfl) (wants_none) (known_core 18 67 _ _ (of_decide_eq_true (by rfl)) (by rfl) (by rfl) (by rfl))
    · exact coreG_loadP _ _ _ _ _ _ gr _ _ _ _ (by rfl) (by rfl) (wants_core 19 68 19 _ _ _ (by rfl) (by rfl) (by rfl) (known_core 19 68 _ _ (of_decide_eq_true (by rfl)) (by rfl) (by rfl) (by rfl)) _ (by rfl)) (known_old 6 _ (of_decide_eq_true (by rfl)) (by rfl)) (fun _ hs => hs.2.2.2.1)
    · exact coreG_loadP _ _ _ _ _ _ gb _ _ _ _ (by rfl) (by rfl) (wants_core 19 68 19 _ _ _ (by rfl) (by rfl) (by rfl) (known_core 19 68 _ _ (of_decide_eq_true (by rfl)) (by rfl) (by rfl) (by rfl)) _ (by rfl)) (known_old 3 _ (of_decide_eq_true (by rfl)) (by rfl)) (fun _ hs => hs.2.2.2.2)
    · exact core_pureAs _ (by rfl)
    · exact coreG_bin _ _ _ _ _ _ _ _ _ _ _ _ _ (by rfl) (by rfl) (wants_core 19 68 19 _ _ _ (by rfl) (by rfl) (by rfl) (known_core 19 68 _ _ (of_decide_eq_true (by rfl)) (by rfl) (by rfl) (by rfl)) _ (by rfl)) (known_core 22 71 _ _ (of_decide_eq_true (by rfl)) (by rfl) (by rfl) (by rfl)) (known_const _) ((fun ρ w hx hy => by simp only [execOp, hx, hy]; simp [go_sem]))
    · exact coreG_pick _ _ _ _ _ _ _ _ _ _ _ _ (by rfl) (by rfl) (wants_none) (known_core 19 68 _ _ (of_decide_eq_true (by rfl)) (by rfl) (by rfl) (by rfl)) (known_core 23 72 _ _ (of_decide_eq_true (by rfl)) (by rfl) (by rfl) (by rfl)) (known_const _) (by rfl)
  · refine all_cons ?_ (all_cons ?_ (all_cons ?_ (all_cons ?_ (all_cons ?_ (all_cons ?_ (all_cons ?_ (all_cons ?_ (all_cons ?_ (all_cons ?_ (all_cons ?_ (all_cons ?_ (all_cons ?_ (all_cons ?_ (all_cons ?_ (all_cons ?_ (all_cons ?_ (all_cons ?_ (all_cons ?_ (all_cons ?_ (all_cons ?_ (all_cons ?_ (all_cons ?_ (all_cons ?_ (all_cons ?_ (all_nil)))))))))))))))))))))))))
    · exact fun _ => coreG_call _ 37 _ _ [] _ _ _ _ _ _ _ (by rfl) Try.func37 (by kernel_rfl) (by rfl) (by rfl) (wants_none) .nil (alive3_any)
    · exact core_stepAs _ (by rfl)
    · exact core_stepAs _ (by rfl)
    · exact core_stepAs _ (by rfl)
    · exact core_stepAs _ (by rfl)
    · exact core_stepAs _ (by rfl)
    · exact core_stepAs _ (by rfl)
    · exact fun _ => coreG_call _ 36 _ _ [.const (.int .u64 0)] _ _ _ _ _ _ _ (by rfl) Try.func36 (by kernel_rfl) (by rfl) (by rfl) (wants_core 5 54 5 _ _ _ (by rfl) (by rfl) (by rfl) (known_core 5 54 _ _ (of_decide_eq_true (by rfl)) (by rfl) (by rfl) (by rfl)) _ (by rfl)) (.cons (known_const _) .nil) (HO.out)
    · exact core_stepAs _ (by rfl)
    · exact core_stepAs _ (by rfl)
    · exact core_stepAs _ (by rfl)
    · exact core_stepAs _ (by rfl)
    · exact core_stepAs _ (by rfl)
    · exact core_stepAs _ (by rfl)
    · exact core_stepAs _ (by rfl)
    · exact core_stepAs _ (by rfl)
    · exact core_stepAs _ (by rfl)
    · exact core_stepAs _ (by rfl)
    · exact core_stepAs _ (by rfl)
    · exact core_stepAs _ (by rfl)
    · exact core_stepAs _ (by rfl)
    · exact core_stepAs _ (by rfl)
    · exact fun _ => coreG_call _ 21 _ _ [.tmp 69, .tmp 70] _ _ _ _ _ _ _ (by rfl) Try.func21 (by kernel_rfl) (by rfl) (by rfl) (wants_core 19 68 19 _ _ _ (by rfl) (by rfl) (by rfl) (known_core 19 68 _ _ (of_decide_eq_true (by rfl)) (by rfl) (by rfl) (by rfl)) _ (by rfl)) (.cons (known_core 20 69 _ _ (of_decide_eq_true (by rfl)) (by rfl) (by rfl) (by rfl)) (.cons (known_core 21 70 _ _ (of_decide_eq_true (by rfl)) (by rfl) (by rfl) (by rfl)) .nil)) (HC.out)
    · exact core_stepAs _ (by rfl)
    · exact core_stepAs _ (by rfl)
  intro vs y9 hc
  have BZ := bel_tr BW.out hc.bel
  refine assign_one (i := 25) (.tmp 73) 4 _ _ _ (.bool true) (by kernel_rfl) (by rfl) (hc.at_ (of_decide_eq_true (by kernel_rfl)) (by rfl) 24 73 _ (.bool true) (by rfl) (by rfl) (by rfl)) (⟨Fhi.out.on hc.bel, Fs.out.on hc.bel, Fa.out.on hc.bel, Fr.out.on hc.bel, Fb.out.on hc.bel⟩) ?_
  refine wpAnyH_done (by kernel_rfl) ?_ _
  refine NoPanic.normal ?_
  generalize hA : Act.put (over _ _ vs) (some 4) (.bool true) = A
  have hA0 : A.tmps.getD 4 undef = .bool true := by rw [← hA]; exact put_at _ _ _ (by rw [over_size]; exact Nat.le_of_ble_eq_true rfl)
  have hAd : A.defers = [] := by rw [← hA, put_defers, over_defers]
  clear hA hc
  go_wp2_with fail
  refine bodyPost_ret (v := .bool true) (by simp [results, Try.results6, go_sem] at hA0 ⊢; simp [hA0]) hAd ⟨rfl, BZ⟩

theorem back_walk (A B : Nat) (hA : A < 2 ^ 256) (hB : B < 2 ^ 256) (w : World) : Calls Try.prog 6 #[num A, num B] w fun e w' => e = .returned (.bool true) ∧ Below w.heap.size w w' := by
  by_cases h0 : B = 0
  · subst h0
    exact back_zero A 0 (div_zero A) (ofL_any 0 (by omega)) w
  · obtain ⟨Q, r, hQ, hr, he, CD⟩ := div_ex A B hA hB h0
    obtain ⟨L, H, hL, hH, e1, CM⟩ := mul_ex Q B hQ hB
    have hH0 : H = 0 := by omega
    subst hH0
    obtain ⟨S, c, hS, hc, e2, CA⟩ := add_ex L r hL (by omega)
    have hc0 : c = 0 := by omega
    subst hc0
    have hSA : S = A := by omega
    subst hSA
    have CC := cmp_any r B (by omega) hB
    rw [cmpN_lt hr] at CC
    exact back_some S B 0 Q r CD (ofL_any 0 (by omega)) (fun w => by rw [eqN B 0 hB (by decide)]; simp [h0]) L CM CA CC w
end Go.Proofs.Ytgfgicpffajgdaa
