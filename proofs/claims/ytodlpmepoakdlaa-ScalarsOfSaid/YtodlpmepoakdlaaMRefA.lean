/-
 balefireref04: whether numbers may, sums, differences, products.
-/
import Derived.Test.YtodlpmepoakdlaaMMod11
import Derived.Test.YtodlpmepoakdlaaMRDiv
import Derived.Test.YtodlpmepoakdlaaMRMul
import Derived.Test.YtodlpmepoakdlaaMRWWord
import Derived.Test.YtodlpmepoakdlaaMShiftN
import Derived.Test.YtodlpmepoakdlaaMTree
namespace Go.Proofs.Ytodlpmepoakdlaa
set_option maxRecDepth 100000
open Go.RowKit
set_option linter.unusedSimpArgs false
set_option linter.unusedVariables false
attribute [local go_sem ↓] Go.wp_at_zero Go.wp_at_succ

set_option maxRecDepth 100000 in
set_option maxHeartbeats 8000000 in
theorem may_yes (A B M Z : Nat) (k j i : Int)
  (hk : 0 < k)
  (hj : j < 0)
  (hi : i < 0)
  (O : ∀ w, Calls Try.prog 46 #[.int .u64 1] w fun e w' => e = .returned (num Z) ∧ Below w.heap.size w w')
  (K : ∀ w, Calls Try.prog 60 #[num M, num Z] w fun e w' => e = .returned (.int .i64 k) ∧ Below w.heap.size w w')
  (J : ∀ w, Calls Try.prog 60 #[num A, num M] w fun e w' => e = .returned (.int .i64 j) ∧ Below w.heap.size w w')
  (I : ∀ w, Calls Try.prog 60 #[num B, num M] w fun e w' => e = .returned (.int .i64 i) ∧ Below w.heap.size w w')
  (w : World) : Calls Try.prog 58 #[num A, num B, num M] w fun e w' => e = .returned (.bool true) ∧ Below w.heap.size w w' := by
 have HO := Lib.hid O
 have HK := Lib.hid K
 have HJ := Lib.hid J
 have HI := Lib.hid I
 clear O K J I
 go_enter Try.func58, Try.ntmps58
 go_wp2_with fail
 have BW := Lib.hid (Below.refl w.heap.size w)
 generalize hW1 : (((w.alloc (.cells #[.int .u64 (wd A 0 : Nat), .int .u64 (wd A 1 : Nat), .int .u64 (wd A 2 : Nat), .int .u64 (wd A 3 : Nat)] 24)).alloc (.cells #[.int .u64 (wd B 0 : Nat), .int .u64 (wd B 1 : Nat), .int .u64 (wd B 2 : Nat), .int .u64 (wd B 3 : Nat)] 24)).alloc (.cells #[.int .u64 (wd M 0 : Nat), .int .u64 (wd M 1 : Nat), .int .u64 (wd M 2 : Nat), .int .u64 (wd M 3 : Nat)] 24)) = W1 at *
 have Na : At W1 (w.heap.size) _ _ := at_of hW1 (((At.at_ _ _ _ _ (by simp)).alloc _).alloc _)
 have Nb : At W1 (w.heap.size + 1) _ _ := at_of hW1 ((At.at_ _ _ _ _ (by simp)).alloc _)
 have Nm : At W1 (w.heap.size + 1 + 1) _ _ := at_of hW1 (At.at_ _ _ _ _ (by simp))
 have NB := gr_of hW1 (gr_alloc (gr_alloc (gr_alloc BW.out _) _) _)
 clear hW1 BW 
 generalize w.heap.size + 1 + 1 = gm at *
 generalize w.heap.size + 1 = gb at *
 obtain ⟨ga, hg0⟩ : ∃ g, g = w.heap.size := ⟨_, rfl⟩
 rw [← hg0] at Na ⊢
 clear hg0
 have Fa := Lib.hid Na
 have Fb := Lib.hid Nb
 have Fm := Lib.hid Nm
 have BW := Lib.hid NB
 clear NB Na Nb Nm
 try simp only [List.append_eq, List.cons_append, List.nil_append]
 refine wp_region_noPanic ?_
 refine wp_region_held_drew (S := fun w' => At w' gm 24 #[.int .u64 (wd M 0 : Nat), .int .u64 (wd M 1 : Nat), .int .u64 (wd M 2 : Nat), .int .u64 (wd M 3 : Nat)] ∧ At w' ga 24 #[.int .u64 (wd A 0 : Nat), .int .u64 (wd A 1 : Nat), .int .u64 (wd A 2 : Nat), .int .u64 (wd A 3 : Nat)] ∧ At w' gb 24 #[.int .u64 (wd B 0 : Nat), .int .u64 (wd B 1 : Nat), .int .u64 (wd B 2 : Nat), .int .u64 (wd B 3 : Nat)]) (by kernel_rfl) (⟨Fm.out.drew, Fa.out.drew, Fb.out.drew⟩) (fun _ => ?_)
 refine wpAnyH_cores (fuel := 1) (⟨0, 7, [], Kind.val (.agg #[.int .u64 (wd M 0 : Nat), .int .u64 (wd M 1 : Nat), .int .u64 (wd M 2 : Nat), .int .u64 (wd M 3 : Nat)]), true⟩ :: ⟨1, 8, [0], Kind.val (.agg #[.int .u64 (wd Z 0 : Nat), .int .u64 (wd Z 1 : Nat), .int .u64 (wd Z 2 : Nat), .int .u64 (wd Z 3 : Nat)]), false⟩ :: ⟨2, 9, [0, 1], Kind.val (.int .i64 k), false⟩ :: ⟨3, 10, [2], Kind.val (.bool true), true⟩ :: ⟨4, 11, [3], Kind.val (.bool true), true⟩ :: ⟨5, 12, [4], Kind.val (.agg #[.int .u64 (wd A 0 : Nat), .int .u64 (wd A 1 : Nat), .int .u64 (wd A 2 : Nat), .int .u64 (wd A 3 : Nat)]), true⟩ :: ⟨6, 13, [4, 5], Kind.val (.agg #[.int .u64 (wd M 0 : Nat), .int .u64 (wd M 1 : Nat), .int .u64 (wd M 2 : Nat), .int .u64 (wd M 3 : Nat)]), true⟩ :: ⟨7, 14, [4, 5, 6], Kind.val (.int .i64 j), false⟩ :: ⟨8, 15, [4, 7], Kind.val (.bool true), true⟩ :: ⟨9, 16, [4, 8], Kind.val (.bool true), true⟩ :: ⟨10, 17, [9], Kind.val (.bool true), true⟩ :: ⟨11, 18, [10], Kind.val (.agg #[.int .u64 (wd B 0 : Nat), .int .u64 (wd B 1 : Nat), .int .u64 (wd B 2 : Nat), .int .u64 (wd B 3 : Nat)]), true⟩ :: ⟨12, 19, [10, 11], Kind.val (.agg #[.int .u64 (wd M 0 : Nat), .int .u64 (wd M 1 : Nat), .int .u64 (wd M 2 : Nat), .int .u64 (wd M 3 : Nat)]), true⟩ :: ⟨13, 20, [10, 11, 12], Kind.val (.int .i64 i), false⟩ :: ⟨14, 21, [10, 13], Kind.val (.bool true), true⟩ :: ⟨15, 22, [10, 14], Kind.val (.bool true), true⟩ :: []) _ _ W1 _ ?_ ?_ ?_ ?_ ?_ ?_ ?_ ?_ ?_ ?_ ?_
 ·rfl
 ·kernel_rfl
 ·exact of_decide_eq_true (by kernel_rfl)
 ·(repeat refine all_cons ⟨_, by rfl, by rfl⟩ ?_); exact all_nil
 ·exact fun _ hb => ⟨Fm.out.on hb, Fa.out.on hb, Fb.out.on hb⟩
 ·exact (Below.refl _ _).drew
 ·kernel_rfl
 ·exact fun _ _ _ _ _ h => h
 ·(repeat (refine all_cons ?_ ?_; rotate_left)); exact all_nil
  ·exact coreG_loadP _ _ _ _ _ _ gm _ _ _ _ (by rfl) (by rfl) (wants_none) (ko 5) (fun _ hs => hs.1)
  ·exact core_pureAs _ (by rfl)
  ·exact core_pureAs _ (by rfl)
  ·exact coreG_bin _ _ _ _ _ _ _ _ _ _ _ _ _ (by rfl) (by rfl) (wants_none) (kc 2 9) (known_const _) ((fun ρ w hx hy => by simp only [execOp, hx, hy]; simp [go_sem]; exact hk))
  ·exact coreG_move _ _ _ _ _ _ _ (by rfl) (by rfl) (wants_none) (kc 3 10)
  ·exact coreG_loadP _ _ _ _ _ _ ga _ _ _ _ (by rfl) (by rfl) (wc 4 11 4 (kc 4 11)) (ko 3) (fun _ hs => hs.2.1)
  ·exact coreG_loadP _ _ _ _ _ _ gm _ _ _ _ (by rfl) (by rfl) (wc 4 11 4 (kc 4 11)) (ko 5) (fun _ hs => hs.1)
  ·exact core_pureAs _ (by rfl)
  ·exact coreG_bin _ _ _ _ _ _ _ _ _ _ _ _ _ (by rfl) (by rfl) (wc 4 11 4 (kc 4 11)) (kc 7 14) (known_const _) ((fun ρ w hx hy => by simp only [execOp, hx, hy]; simp [go_sem]; exact hj))
  ·exact coreG_pick _ _ _ _ _ _ _ _ _ _ _ _ (by rfl) (by rfl) (wants_none) (kc 4 11) (kc 8 15) (known_const _) (by rfl)
  ·exact coreG_move _ _ _ _ _ _ _ (by rfl) (by rfl) (wants_none) (kc 9 16)
  ·exact coreG_loadP _ _ _ _ _ _ gb _ _ _ _ (by rfl) (by rfl) (wc 10 17 10 (kc 10 17)) (ko 4) (fun _ hs => hs.2.2)
  ·exact coreG_loadP _ _ _ _ _ _ gm _ _ _ _ (by rfl) (by rfl) (wc 10 17 10 (kc 10 17)) (ko 5) (fun _ hs => hs.1)
  ·exact core_pureAs _ (by rfl)
  ·exact coreG_bin _ _ _ _ _ _ _ _ _ _ _ _ _ (by rfl) (by rfl) (wc 10 17 10 (kc 10 17)) (kc 13 20) (known_const _) ((fun ρ w hx hy => by simp only [execOp, hx, hy]; simp [go_sem]; exact hi))
  ·exact coreG_pick _ _ _ _ _ _ _ _ _ _ _ _ (by rfl) (by rfl) (wants_none) (kc 10 17) (kc 14 21) (known_const _) (by rfl)
 ·(repeat (refine all_cons ?_ ?_; rotate_left)); exact all_nil
  ·exact sA
  ·exact fun _ => coreG_call _ 46 _ _ [.const (.int .u64 1)] _ _ _ _ _ _ _ (by rfl) Try.func46 (by kernel_rfl) (by rfl) (by rfl) (wants_none) (.cons (known_const _) .nil) (HO.out)
  ·exact fun _ => coreG_call _ 60 _ _ [.tmp 7, .tmp 8] _ _ _ _ _ _ _ (by rfl) Try.func60 (by kernel_rfl) (by rfl) (by rfl) (wants_none) (.cons (kc 0 7) (.cons (kc 1 8) .nil)) (HK.out)
  ·exact sA
  ·exact sA
  ·exact sA
  ·exact sA
  ·exact fun _ => coreG_call _ 60 _ _ [.tmp 12, .tmp 13] _ _ _ _ _ _ _ (by rfl) Try.func60 (by kernel_rfl) (by rfl) (by rfl) (wc 4 11 4 (kc 4 11)) (.cons (kc 5 12) (.cons (kc 6 13) .nil)) (HJ.out)
  ·exact sA
  ·exact sA
  ·exact sA
  ·exact sA
  ·exact sA
  ·exact fun _ => coreG_call _ 60 _ _ [.tmp 18, .tmp 19] _ _ _ _ _ _ _ (by rfl) Try.func60 (by kernel_rfl) (by rfl) (by rfl) (wc 10 17 10 (kc 10 17)) (.cons (kc 11 18) (.cons (kc 12 19) .nil)) (HI.out)
  ·exact sA
  ·exact sA
 intro vs y2 hc
 have BZ := bel_tr BW.out hc.bel
 refine assign_one (i := 16) (.tmp 22) 6 _ _ _ (.bool true) (by kernel_rfl) (by rfl) (hc.at_ (of_decide_eq_true (by kernel_rfl)) (by rfl) 15 22 _ (.bool true) (by rfl) (by rfl) (by rfl)) (⟨Fm.out.on hc.bel, Fa.out.on hc.bel, Fb.out.on hc.bel⟩) ?_
 refine wpAnyH_done (by kernel_rfl) ?_ _
 refine NoPanic.normal ?_
 generalize hA : Act.put (over _ _ vs) (some 6) (.bool true) = A
 have hA0 : A.tmps.getD 6 undef = .bool true := by rw [← hA]; exact put_at _ _ _ (by rw [over_size]; exact Nat.le_of_ble_eq_true rfl)
 have hAd : A.defers = [] := by rw [← hA, put_defers, over_defers]
 clear hA hc
 go_wp2_with fail
 refine bodyPost_ret (v := .bool true) (by simp [results, Try.results58, go_sem] at hA0 ⊢; simp [hA0]) hAd ⟨rfl, BZ⟩

set_option maxRecDepth 100000 in
set_option maxHeartbeats 8000000 in
theorem may_b (A B M Z : Nat) (k j i : Int)
  (hk : 0 < k)
  (hj : j < 0)
  (hi : 0 ≤ i)
  (O : ∀ w, Calls Try.prog 46 #[.int .u64 1] w fun e w' => e = .returned (num Z) ∧ Below w.heap.size w w')
  (K : ∀ w, Calls Try.prog 60 #[num M, num Z] w fun e w' => e = .returned (.int .i64 k) ∧ Below w.heap.size w w')
  (J : ∀ w, Calls Try.prog 60 #[num A, num M] w fun e w' => e = .returned (.int .i64 j) ∧ Below w.heap.size w w')
  (I : ∀ w, Calls Try.prog 60 #[num B, num M] w fun e w' => e = .returned (.int .i64 i) ∧ Below w.heap.size w w')
  (w : World) : Calls Try.prog 58 #[num A, num B, num M] w fun e w' => e = .returned (.bool false) ∧ Below w.heap.size w w' := by
 have HO := Lib.hid O
 have HK := Lib.hid K
 have HJ := Lib.hid J
 have HI := Lib.hid I
 clear O K J I
 go_enter Try.func58, Try.ntmps58
 go_wp2_with fail
 have BW := Lib.hid (Below.refl w.heap.size w)
 generalize hW1 : (((w.alloc (.cells #[.int .u64 (wd A 0 : Nat), .int .u64 (wd A 1 : Nat), .int .u64 (wd A 2 : Nat), .int .u64 (wd A 3 : Nat)] 24)).alloc (.cells #[.int .u64 (wd B 0 : Nat), .int .u64 (wd B 1 : Nat), .int .u64 (wd B 2 : Nat), .int .u64 (wd B 3 : Nat)] 24)).alloc (.cells #[.int .u64 (wd M 0 : Nat), .int .u64 (wd M 1 : Nat), .int .u64 (wd M 2 : Nat), .int .u64 (wd M 3 : Nat)] 24)) = W1 at *
 have Na : At W1 (w.heap.size) _ _ := at_of hW1 (((At.at_ _ _ _ _ (by simp)).alloc _).alloc _)
 have Nb : At W1 (w.heap.size + 1) _ _ := at_of hW1 ((At.at_ _ _ _ _ (by simp)).alloc _)
 have Nm : At W1 (w.heap.size + 1 + 1) _ _ := at_of hW1 (At.at_ _ _ _ _ (by simp))
 have NB := gr_of hW1 (gr_alloc (gr_alloc (gr_alloc BW.out _) _) _)
 clear hW1 BW 
 generalize w.heap.size + 1 + 1 = gm at *
 generalize w.heap.size + 1 = gb at *
 obtain ⟨ga, hg0⟩ : ∃ g, g = w.heap.size := ⟨_, rfl⟩
 rw [← hg0] at Na ⊢
 clear hg0
 have Fa := Lib.hid Na
 have Fb := Lib.hid Nb
 have Fm := Lib.hid Nm
 have BW := Lib.hid NB
 clear NB Na Nb Nm
 try simp only [List.append_eq, List.cons_append, List.nil_append]
 refine wp_region_noPanic ?_
 refine wp_region_held_drew (S := fun w' => At w' gm 24 #[.int .u64 (wd M 0 : Nat), .int .u64 (wd M 1 : Nat), .int .u64 (wd M 2 : Nat), .int .u64 (wd M 3 : Nat)] ∧ At w' ga 24 #[.int .u64 (wd A 0 : Nat), .int .u64 (wd A 1 : Nat), .int .u64 (wd A 2 : Nat), .int .u64 (wd A 3 : Nat)] ∧ At w' gb 24 #[.int .u64 (wd B 0 : Nat), .int .u64 (wd B 1 : Nat), .int .u64 (wd B 2 : Nat), .int .u64 (wd B 3 : Nat)]) (by kernel_rfl) (⟨Fm.out.drew, Fa.out.drew, Fb.out.drew⟩) (fun _ => ?_)
 refine wpAnyH_cores (fuel := 1) (⟨0, 7, [], Kind.val (.agg #[.int .u64 (wd M 0 : Nat), .int .u64 (wd M 1 : Nat), .int .u64 (wd M 2 : Nat), .int .u64 (wd M 3 : Nat)]), true⟩ :: ⟨1, 8, [0], Kind.val (.agg #[.int .u64 (wd Z 0 : Nat), .int .u64 (wd Z 1 : Nat), .int .u64 (wd Z 2 : Nat), .int .u64 (wd Z 3 : Nat)]), false⟩ :: ⟨2, 9, [0, 1], Kind.val (.int .i64 k), false⟩ :: ⟨3, 10, [2], Kind.val (.bool true), true⟩ :: ⟨4, 11, [3], Kind.val (.bool true), true⟩ :: ⟨5, 12, [4], Kind.val (.agg #[.int .u64 (wd A 0 : Nat), .int .u64 (wd A 1 : Nat), .int .u64 (wd A 2 : Nat), .int .u64 (wd A 3 : Nat)]), true⟩ :: ⟨6, 13, [4, 5], Kind.val (.agg #[.int .u64 (wd M 0 : Nat), .int .u64 (wd M 1 : Nat), .int .u64 (wd M 2 : Nat), .int .u64 (wd M 3 : Nat)]), true⟩ :: ⟨7, 14, [4, 5, 6], Kind.val (.int .i64 j), false⟩ :: ⟨8, 15, [4, 7], Kind.val (.bool true), true⟩ :: ⟨9, 16, [4, 8], Kind.val (.bool true), true⟩ :: ⟨10, 17, [9], Kind.val (.bool true), true⟩ :: ⟨11, 18, [10], Kind.val (.agg #[.int .u64 (wd B 0 : Nat), .int .u64 (wd B 1 : Nat), .int .u64 (wd B 2 : Nat), .int .u64 (wd B 3 : Nat)]), true⟩ :: ⟨12, 19, [10, 11], Kind.val (.agg #[.int .u64 (wd M 0 : Nat), .int .u64 (wd M 1 : Nat), .int .u64 (wd M 2 : Nat), .int .u64 (wd M 3 : Nat)]), true⟩ :: ⟨13, 20, [10, 11, 12], Kind.val (.int .i64 i), false⟩ :: ⟨14, 21, [10, 13], Kind.val (.bool false), true⟩ :: ⟨15, 22, [10, 14], Kind.val (.bool false), true⟩ :: []) _ _ W1 _ ?_ ?_ ?_ ?_ ?_ ?_ ?_ ?_ ?_ ?_ ?_
 ·rfl
 ·kernel_rfl
 ·exact of_decide_eq_true (by kernel_rfl)
 ·(repeat refine all_cons ⟨_, by rfl, by rfl⟩ ?_); exact all_nil
 ·exact fun _ hb => ⟨Fm.out.on hb, Fa.out.on hb, Fb.out.on hb⟩
 ·exact (Below.refl _ _).drew
 ·kernel_rfl
 ·exact fun _ _ _ _ _ h => h
 ·(repeat (refine all_cons ?_ ?_; rotate_left)); exact all_nil
  ·exact coreG_loadP _ _ _ _ _ _ gm _ _ _ _ (by rfl) (by rfl) (wants_none) (ko 5) (fun _ hs => hs.1)
  ·exact core_pureAs _ (by rfl)
  ·exact core_pureAs _ (by rfl)
  ·exact coreG_bin _ _ _ _ _ _ _ _ _ _ _ _ _ (by rfl) (by rfl) (wants_none) (kc 2 9) (known_const _) ((fun ρ w hx hy => by simp only [execOp, hx, hy]; simp [go_sem]; exact hk))
  ·exact coreG_move _ _ _ _ _ _ _ (by rfl) (by rfl) (wants_none) (kc 3 10)
  ·exact coreG_loadP _ _ _ _ _ _ ga _ _ _ _ (by rfl) (by rfl) (wc 4 11 4 (kc 4 11)) (ko 3) (fun _ hs => hs.2.1)
  ·exact coreG_loadP _ _ _ _ _ _ gm _ _ _ _ (by rfl) (by rfl) (wc 4 11 4 (kc 4 11)) (ko 5) (fun _ hs => hs.1)
  ·exact core_pureAs _ (by rfl)
  ·exact coreG_bin _ _ _ _ _ _ _ _ _ _ _ _ _ (by rfl) (by rfl) (wc 4 11 4 (kc 4 11)) (kc 7 14) (known_const _) ((fun ρ w hx hy => by simp only [execOp, hx, hy]; simp [go_sem]; exact hj))
  ·exact coreG_pick _ _ _ _ _ _ _ _ _ _ _ _ (by rfl) (by rfl) (wants_none) (kc 4 11) (kc 8 15) (known_const _) (by rfl)
  ·exact coreG_move _ _ _ _ _ _ _ (by rfl) (by rfl) (wants_none) (kc 9 16)
  ·exact coreG_loadP _ _ _ _ _ _ gb _ _ _ _ (by rfl) (by rfl) (wc 10 17 10 (kc 10 17)) (ko 4) (fun _ hs => hs.2.2)
  ·exact coreG_loadP _ _ _ _ _ _ gm _ _ _ _ (by rfl) (by rfl) (wc 10 17 10 (kc 10 17)) (ko 5) (fun _ hs => hs.1)
  ·exact core_pureAs _ (by rfl)
  ·exact coreG_bin _ _ _ _ _ _ _ _ _ _ _ _ _ (by rfl) (by rfl) (wc 10 17 10 (kc 10 17)) (kc 13 20) (known_const _) ((fun ρ w hx hy => by simp only [execOp, hx, hy]; simp [go_sem]; exact hi))
  ·exact coreG_pick _ _ _ _ _ _ _ _ _ _ _ _ (by rfl) (by rfl) (wants_none) (kc 10 17) (kc 14 21) (known_const _) (by rfl)
 ·(repeat (refine all_cons ?_ ?_; rotate_left)); exact all_nil
  ·exact sA
  ·exact fun _ => coreG_call _ 46 _ _ [.const (.int .u64 1)] _ _ _ _ _ _ _ (by rfl) Try.func46 (by kernel_rfl) (by rfl) (by rfl) (wants_none) (.cons (known_const _) .nil) (HO.out)
  ·exact fun _ => coreG_call _ 60 _ _ [.tmp 7, .tmp 8] _ _ _ _ _ _ _ (by rfl) Try.func60 (by kernel_rfl) (by rfl) (by rfl) (wants_none) (.cons (kc 0 7) (.cons (kc 1 8) .nil)) (HK.out)
  ·exact sA
  ·exact sA
  ·exact sA
  ·exact sA
  ·exact fun _ => coreG_call _ 60 _ _ [.tmp 12, .tmp 13] _ _ _ _ _ _ _ (by rfl) Try.func60 (by kernel_rfl) (by rfl) (by rfl) (wc 4 11 4 (kc 4 11)) (.cons (kc 5 12) (.cons (kc 6 13) .nil)) (HJ.out)
  ·exact sA
  ·exact sA
  ·exact sA
  ·exact sA
  ·exact sA
  ·exact fun _ => coreG_call _ 60 _ _ [.tmp 18, .tmp 19] _ _ _ _ _ _ _ (by rfl) Try.func60 (by kernel_rfl) (by rfl) (by rfl) (wc 10 17 10 (kc 10 17)) (.cons (kc 11 18) (.cons (kc 12 19) .nil)) (HI.out)
  ·exact sA
  ·exact sA
 intro vs y2 hc
 have BZ := bel_tr BW.out hc.bel
 refine assign_one (i := 16) (.tmp 22) 6 _ _ _ (.bool false) (by kernel_rfl) (by rfl) (hc.at_ (of_decide_eq_true (by kernel_rfl)) (by rfl) 15 22 _ (.bool false) (by rfl) (by rfl) (by rfl)) (⟨Fm.out.on hc.bel, Fa.out.on hc.bel, Fb.out.on hc.bel⟩) ?_
 refine wpAnyH_done (by kernel_rfl) ?_ _
 refine NoPanic.normal ?_
 generalize hA : Act.put (over _ _ vs) (some 6) (.bool false) = A
 have hA0 : A.tmps.getD 6 undef = .bool false := by rw [← hA]; exact put_at _ _ _ (by rw [over_size]; exact Nat.le_of_ble_eq_true rfl)
 have hAd : A.defers = [] := by rw [← hA, put_defers, over_defers]
 clear hA hc
 go_wp2_with fail
 refine bodyPost_ret (v := .bool false) (by simp [results, Try.results58, go_sem] at hA0 ⊢; simp [hA0]) hAd ⟨rfl, BZ⟩

set_option maxRecDepth 100000 in
set_option maxHeartbeats 8000000 in
theorem may_a (A B M Z : Nat) (k j : Int)
  (hk : 0 < k)
  (hj : 0 ≤ j)
  (O : ∀ w, Calls Try.prog 46 #[.int .u64 1] w fun e w' => e = .returned (num Z) ∧ Below w.heap.size w w')
  (K : ∀ w, Calls Try.prog 60 #[num M, num Z] w fun e w' => e = .returned (.int .i64 k) ∧ Below w.heap.size w w')
  (J : ∀ w, Calls Try.prog 60 #[num A, num M] w fun e w' => e = .returned (.int .i64 j) ∧ Below w.heap.size w w')
  (w : World) : Calls Try.prog 58 #[num A, num B, num M] w fun e w' => e = .returned (.bool false) ∧ Below w.heap.size w w' := by
 have HO := Lib.hid O
 have HK := Lib.hid K
 have HJ := Lib.hid J
 clear O K J
 go_enter Try.func58, Try.ntmps58
 go_wp2_with fail
 have BW := Lib.hid (Below.refl w.heap.size w)
 generalize hW1 : (((w.alloc (.cells #[.int .u64 (wd A 0 : Nat), .int .u64 (wd A 1 : Nat), .int .u64 (wd A 2 : Nat), .int .u64 (wd A 3 : Nat)] 24)).alloc (.cells #[.int .u64 (wd B 0 : Nat), .int .u64 (wd B 1 : Nat), .int .u64 (wd B 2 : Nat), .int .u64 (wd B 3 : Nat)] 24)).alloc (.cells #[.int .u64 (wd M 0 : Nat), .int .u64 (wd M 1 : Nat), .int .u64 (wd M 2 : Nat), .int .u64 (wd M 3 : Nat)] 24)) = W1 at *
 have Na : At W1 (w.heap.size) _ _ := at_of hW1 (((At.at_ _ _ _ _ (by simp)).alloc _).alloc _)
 have Nb : At W1 (w.heap.size + 1) _ _ := at_of hW1 ((At.at_ _ _ _ _ (by simp)).alloc _)
 have Nm : At W1 (w.heap.size + 1 + 1) _ _ := at_of hW1 (At.at_ _ _ _ _ (by simp))
 have NB := gr_of hW1 (gr_alloc (gr_alloc (gr_alloc BW.out _) _) _)
 clear hW1 BW 
 generalize w.heap.size + 1 + 1 = gm at *
 generalize w.heap.size + 1 = gb at *
 obtain ⟨ga, hg0⟩ : ∃ g, g = w.heap.size := ⟨_, rfl⟩
 rw [← hg0] at Na ⊢
 clear hg0
 have Fa := Lib.hid Na
 have Fb := Lib.hid Nb
 have Fm := Lib.hid Nm
 have BW := Lib.hid NB
 clear NB Na Nb Nm
 try simp only [List.append_eq, List.cons_append, List.nil_append]
 refine wp_region_noPanic ?_
 refine wp_region_held_drew (S := fun w' => At w' gm 24 #[.int .u64 (wd M 0 : Nat), .int .u64 (wd M 1 : Nat), .int .u64 (wd M 2 : Nat), .int .u64 (wd M 3 : Nat)] ∧ At w' ga 24 #[.int .u64 (wd A 0 : Nat), .int .u64 (wd A 1 : Nat), .int .u64 (wd A 2 : Nat), .int .u64 (wd A 3 : Nat)] ∧ At w' gb 24 #[.int .u64 (wd B 0 : Nat), .int .u64 (wd B 1 : Nat), .int .u64 (wd B 2 : Nat), .int .u64 (wd B 3 : Nat)]) (by kernel_rfl) (⟨Fm.out.drew, Fa.out.drew, Fb.out.drew⟩) (fun _ => ?_)
 refine wpAnyH_cores (fuel := 1) (⟨0, 7, [], Kind.val (.agg #[.int .u64 (wd M 0 : Nat), .int .u64 (wd M 1 : Nat), .int .u64 (wd M 2 : Nat), .int .u64 (wd M 3 : Nat)]), true⟩ :: ⟨1, 8, [0], Kind.val (.agg #[.int .u64 (wd Z 0 : Nat), .int .u64 (wd Z 1 : Nat), .int .u64 (wd Z 2 : Nat), .int .u64 (wd Z 3 : Nat)]), false⟩ :: ⟨2, 9, [0, 1], Kind.val (.int .i64 k), false⟩ :: ⟨3, 10, [2], Kind.val (.bool true), true⟩ :: ⟨4, 11, [3], Kind.val (.bool true), true⟩ :: ⟨5, 12, [4], Kind.val (.agg #[.int .u64 (wd A 0 : Nat), .int .u64 (wd A 1 : Nat), .int .u64 (wd A 2 : Nat), .int .u64 (wd A 3 : Nat)]), true⟩ :: ⟨6, 13, [4, 5], Kind.val (.agg #[.int .u64 (wd M 0 : Nat), .int .u64 (wd M 1 : Nat), .int .u64 (wd M 2 : Nat), .int .u64 (wd M 3 : Nat)]), true⟩ :: ⟨7, 14, [4, 5, 6], Kind.val (.int .i64 j), false⟩ :: ⟨8, 15, [4, 7], Kind.val (.bool false), true⟩ :: ⟨9, 16, [4, 8], Kind.val (.bool false), true⟩ :: ⟨10, 17, [9], Kind.val (.bool false), true⟩ :: ⟨11, 18, [10], Kind.val (undef), true⟩ :: ⟨12, 19, [10, 11], Kind.val (undef), true⟩ :: ⟨13, 20, [10, 11, 12], Kind.val (undef), true⟩ :: ⟨14, 21, [10, 13], Kind.val (undef), true⟩ :: ⟨15, 22, [10, 14], Kind.val (.bool false), true⟩ :: []) _ _ W1 _ ?_ ?_ ?_ ?_ ?_ ?_ ?_ ?_ ?_ ?_ ?_
 ·rfl
 ·kernel_rfl
 ·exact of_decide_eq_true (by kernel_rfl)
 ·(repeat refine all_cons ⟨_, by rfl, by rfl⟩ ?_); exact all_nil
 ·exact fun _ hb => ⟨Fm.out.on hb, Fa.out.on hb, Fb.out.on hb⟩
 ·exact (Below.refl _ _).drew
 ·kernel_rfl
 ·exact fun _ _ _ _ _ h => h
 ·(repeat (refine all_cons ?_ ?_; rotate_left)); exact all_nil
  ·exact coreG_loadP _ _ _ _ _ _ gm _ _ _ _ (by rfl) (by rfl) (wants_none) (ko 5) (fun _ hs => hs.1)
  ·exact core_pureAs _ (by rfl)
  ·exact core_pureAs _ (by rfl)
  ·exact coreG_bin _ _ _ _ _ _ _ _ _ _ _ _ _ (by rfl) (by rfl) (wants_none) (kc 2 9) (known_const _) ((fun ρ w hx hy => by simp only [execOp, hx, hy]; simp [go_sem]; exact hk))
  ·exact coreG_move _ _ _ _ _ _ _ (by rfl) (by rfl) (wants_none) (kc 3 10)
  ·exact coreG_loadP _ _ _ _ _ _ ga _ _ _ _ (by rfl) (by rfl) (wc 4 11 4 (kc 4 11)) (ko 3) (fun _ hs => hs.2.1)
  ·exact coreG_loadP _ _ _ _ _ _ gm _ _ _ _ (by rfl) (by rfl) (wc 4 11 4 (kc 4 11)) (ko 5) (fun _ hs => hs.1)
  ·exact core_pureAs _ (by rfl)
  ·exact coreG_bin _ _ _ _ _ _ _ _ _ _ _ _ _ (by rfl) (by rfl) (wc 4 11 4 (kc 4 11)) (kc 7 14) (known_const _) ((fun ρ w hx hy => by simp only [execOp, hx, hy]; simp [go_sem]; exact hj))
  ·exact coreG_pick _ _ _ _ _ _ _ _ _ _ _ _ (by rfl) (by rfl) (wants_none) (kc 4 11) (kc 8 15) (known_const _) (by rfl)
  ·exact coreG_move _ _ _ _ _ _ _ (by rfl) (by rfl) (wants_none) (kc 9 16)
  ·exact coreG_skip _ _ _ _ _ _ (by rfl) (by rfl) (wc 10 17 10 (kc 10 17))
  ·exact coreG_skip _ _ _ _ _ _ (by rfl) (by rfl) (wc 10 17 10 (kc 10 17))
  ·exact coreG_skip _ _ _ _ _ _ (by rfl) (by rfl) (wc 10 17 10 (kc 10 17))
  ·exact coreG_skip _ _ _ _ _ _ (by rfl) (by rfl) (wc 10 17 10 (kc 10 17))
  ·exact coreG_pick _ _ _ _ _ _ _ _ _ _ _ _ (by rfl) (by rfl) (wants_none) (kc 10 17) (kc 14 21) (known_const _) (by rfl)
 ·(repeat (refine all_cons ?_ ?_; rotate_left)); exact all_nil
  ·exact sA
  ·exact fun _ => coreG_call _ 46 _ _ [.const (.int .u64 1)] _ _ _ _ _ _ _ (by rfl) Try.func46 (by kernel_rfl) (by rfl) (by rfl) (wants_none) (.cons (known_const _) .nil) (HO.out)
  ·exact fun _ => coreG_call _ 60 _ _ [.tmp 7, .tmp 8] _ _ _ _ _ _ _ (by rfl) Try.func60 (by kernel_rfl) (by rfl) (by rfl) (wants_none) (.cons (kc 0 7) (.cons (kc 1 8) .nil)) (HK.out)
  ·exact sA
  ·exact sA
  ·exact sA
  ·exact sA
  ·exact fun _ => coreG_call _ 60 _ _ [.tmp 12, .tmp 13] _ _ _ _ _ _ _ (by rfl) Try.func60 (by kernel_rfl) (by rfl) (by rfl) (wc 4 11 4 (kc 4 11)) (.cons (kc 5 12) (.cons (kc 6 13) .nil)) (HJ.out)
  ·exact sA
  ·exact sA
  ·exact sA
  ·exact sA
  ·exact sA
  ·exact sA
  ·exact sA
  ·exact sA
 intro vs y2 hc
 have BZ := bel_tr BW.out hc.bel
 refine assign_one (i := 16) (.tmp 22) 6 _ _ _ (.bool false) (by kernel_rfl) (by rfl) (hc.at_ (of_decide_eq_true (by kernel_rfl)) (by rfl) 15 22 _ (.bool false) (by rfl) (by rfl) (by rfl)) (⟨Fm.out.on hc.bel, Fa.out.on hc.bel, Fb.out.on hc.bel⟩) ?_
 refine wpAnyH_done (by kernel_rfl) ?_ _
 refine NoPanic.normal ?_
 generalize hA : Act.put (over _ _ vs) (some 6) (.bool false) = A
 have hA0 : A.tmps.getD 6 undef = .bool false := by rw [← hA]; exact put_at _ _ _ (by rw [over_size]; exact Nat.le_of_ble_eq_true rfl)
 have hAd : A.defers = [] := by rw [← hA, put_defers, over_defers]
 clear hA hc
 go_wp2_with fail
 refine bodyPost_ret (v := .bool false) (by simp [results, Try.results58, go_sem] at hA0 ⊢; simp [hA0]) hAd ⟨rfl, BZ⟩

set_option maxRecDepth 100000 in
set_option maxHeartbeats 8000000 in
theorem may_m (A B M Z : Nat) (k : Int)
  (hk : k ≤ 0)
  (O : ∀ w, Calls Try.prog 46 #[.int .u64 1] w fun e w' => e = .returned (num Z) ∧ Below w.heap.size w w')
  (K : ∀ w, Calls Try.prog 60 #[num M, num Z] w fun e w' => e = .returned (.int .i64 k) ∧ Below w.heap.size w w')
  (w : World) : Calls Try.prog 58 #[num A, num B, num M] w fun e w' => e = .returned (.bool false) ∧ Below w.heap.size w w' := by
 have HO := Lib.hid O
 have HK := Lib.hid K
 clear O K
 go_enter Try.func58, Try.ntmps58
 go_wp2_with fail
 have BW := Lib.hid (Below.refl w.heap.size w)
 generalize hW1 : (((w.alloc (.cells #[.int .u64 (wd A 0 : Nat), .int .u64 (wd A 1 : Nat), .int .u64 (wd A 2 : Nat), .int .u64 (wd A 3 : Nat)] 24)).alloc (.cells #[.int .u64 (wd B 0 : Nat), .int .u64 (wd B 1 : Nat), .int .u64 (wd B 2 : Nat), .int .u64 (wd B 3 : Nat)] 24)).alloc (.cells #[.int .u64 (wd M 0 : Nat), .int .u64 (wd M 1 : Nat), .int .u64 (wd M 2 : Nat), .int .u64 (wd M 3 : Nat)] 24)) = W1 at *
 have Na : At W1 (w.heap.size) _ _ := at_of hW1 (((At.at_ _ _ _ _ (by simp)).alloc _).alloc _)
 have Nb : At W1 (w.heap.size + 1) _ _ := at_of hW1 ((At.at_ _ _ _ _ (by simp)).alloc _)
 have Nm : At W1 (w.heap.size + 1 + 1) _ _ := at_of hW1 (At.at_ _ _ _ _ (by simp))
 have NB := gr_of hW1 (gr_alloc (gr_alloc (gr_alloc BW.out _) _) _)
 clear hW1 BW 
 generalize w.heap.size + 1 + 1 = gm at *
 generalize w.heap.size + 1 = gb at *
 obtain ⟨ga, hg0⟩ : ∃ g, g = w.heap.size := ⟨_, rfl⟩
 rw [← hg0] at Na ⊢
 clear hg0
 have Fa := Lib.hid Na
 have Fb := Lib.hid Nb
 have Fm := Lib.hid Nm
 have BW := Lib.hid NB
 clear NB Na Nb Nm
 try simp only [List.append_eq, List.cons_append, List.nil_append]
 refine wp_region_noPanic ?_
 refine wp_region_held_drew (S := fun w' => At w' gm 24 #[.int .u64 (wd M 0 : Nat), .int .u64 (wd M 1 : Nat), .int .u64 (wd M 2 : Nat), .int .u64 (wd M 3 : Nat)] ∧ At w' ga 24 #[.int .u64 (wd A 0 : Nat), .int .u64 (wd A 1 : Nat), .int .u64 (wd A 2 : Nat), .int .u64 (wd A 3 : Nat)] ∧ At w' gb 24 #[.int .u64 (wd B 0 : Nat), .int .u64 (wd B 1 : Nat), .int .u64 (wd B 2 : Nat), .int .u64 (wd B 3 : Nat)]) (by kernel_rfl) (⟨Fm.out.drew, Fa.out.drew, Fb.out.drew⟩) (fun _ => ?_)
 refine wpAnyH_cores (fuel := 1) (⟨0, 7, [], Kind.val (.agg #[.int .u64 (wd M 0 : Nat), .int .u64 (wd M 1 : Nat), .int .u64 (wd M 2 : Nat), .int .u64 (wd M 3 : Nat)]), true⟩ :: ⟨1, 8, [0], Kind.val (.agg #[.int .u64 (wd Z 0 : Nat), .int .u64 (wd Z 1 : Nat), .int .u64 (wd Z 2 : Nat), .int .u64 (wd Z 3 : Nat)]), false⟩ :: ⟨2, 9, [0, 1], Kind.val (.int .i64 k), false⟩ :: ⟨3, 10, [2], Kind.val (.bool false), true⟩ :: ⟨4, 11, [3], Kind.val (.bool false), true⟩ :: ⟨5, 12, [4], Kind.val (undef), true⟩ :: ⟨6, 13, [4, 5], Kind.val (undef), true⟩ :: ⟨7, 14, [4, 5, 6], Kind.val (undef), true⟩ :: ⟨8, 15, [4, 7], Kind.val (undef), true⟩ :: ⟨9, 16, [4, 8], Kind.val (.bool false), true⟩ :: ⟨10, 17, [9], Kind.val (.bool false), true⟩ :: ⟨11, 18, [10], Kind.val (undef), true⟩ :: ⟨12, 19, [10, 11], Kind.val (undef), true⟩ :: ⟨13, 20, [10, 11, 12], Kind.val (undef), true⟩ :: ⟨14, 21, [10, 13], Kind.val (undef), true⟩ :: ⟨15, 22, [10, 14], Kind.val (.bool false), true⟩ :: []) _ _ W1 _ ?_ ?_ ?_ ?_ ?_ ?_ ?_ ?_ ?_ ?_ ?_
 ·rfl
 ·kernel_rfl
 ·exact of_decide_eq_true (by kernel_rfl)
 ·(repeat refine all_cons ⟨_, by rfl, by rfl⟩ ?_); exact all_nil
 ·exact fun _ hb => ⟨Fm.out.on hb, Fa.out.on hb, Fb.out.on hb⟩
 ·exact (Below.refl _ _).drew
 ·kernel_rfl
 ·exact fun _ _ _ _ _ h => h
 ·(repeat (refine all_cons ?_ ?_; rotate_left)); exact all_nil
  ·exact coreG_loadP _ _ _ _ _ _ gm _ _ _ _ (by rfl) (by rfl) (wants_none) (ko 5) (fun _ hs => hs.1)
  ·exact core_pureAs _ (by rfl)
  ·exact core_pureAs _ (by rfl)
  ·exact coreG_bin _ _ _ _ _ _ _ _ _ _ _ _ _ (by rfl) (by rfl) (wants_none) (kc 2 9) (known_const _) ((fun ρ w hx hy => by simp only [execOp, hx, hy]; simp [go_sem]; exact hk))
  ·exact coreG_move _ _ _ _ _ _ _ (by rfl) (by rfl) (wants_none) (kc 3 10)
  ·exact coreG_skip _ _ _ _ _ _ (by rfl) (by rfl) (wc 4 11 4 (kc 4 11))
  ·exact coreG_skip _ _ _ _ _ _ (by rfl) (by rfl) (wc 4 11 4 (kc 4 11))
  ·exact coreG_skip _ _ _ _ _ _ (by rfl) (by rfl) (wc 4 11 4 (kc 4 11))
  ·exact coreG_skip _ _ _ _ _ _ (by rfl) (by rfl) (wc 4 11 4 (kc 4 11))
  ·exact coreG_pick _ _ _ _ _ _ _ _ _ _ _ _ (by rfl) (by rfl) (wants_none) (kc 4 11) (kc 8 15) (known_const _) (by rfl)
  ·exact coreG_move _ _ _ _ _ _ _ (by rfl) (by rfl) (wants_none) (kc 9 16)
  ·exact coreG_skip _ _ _ _ _ _ (by rfl) (by rfl) (wc 10 17 10 (kc 10 17))
  ·exact coreG_skip _ _ _ _ _ _ (by rfl) (by rfl) (wc 10 17 10 (kc 10 17))
  ·exact coreG_skip _ _ _ _ _ _ (by rfl) (by rfl) (wc 10 17 10 (kc 10 17))
  ·exact coreG_skip _ _ _ _ _ _ (by rfl) (by rfl) (wc 10 17 10 (kc 10 17))
  ·exact coreG_pick _ _ _ _ _ _ _ _ _ _ _ _ (by rfl) (by rfl) (wants_none) (kc 10 17) (kc 14 21) (known_const _) (by rfl)
 ·(repeat (refine all_cons ?_ ?_; rotate_left)); exact all_nil
  ·exact sA
  ·exact fun _ => coreG_call _ 46 _ _ [.const (.int .u64 1)] _ _ _ _ _ _ _ (by rfl) Try.func46 (by kernel_rfl) (by rfl) (by rfl) (wants_none) (.cons (known_const _) .nil) (HO.out)
  ·exact fun _ => coreG_call _ 60 _ _ [.tmp 7, .tmp 8] _ _ _ _ _ _ _ (by rfl) Try.func60 (by kernel_rfl) (by rfl) (by rfl) (wants_none) (.cons (kc 0 7) (.cons (kc 1 8) .nil)) (HK.out)
  ·exact sA
  ·exact sA
  ·exact sA
  ·exact sA
  ·exact sA
  ·exact sA
  ·exact sA
  ·exact sA
  ·exact sA
  ·exact sA
  ·exact sA
  ·exact sA
  ·exact sA
 intro vs y2 hc
 have BZ := bel_tr BW.out hc.bel
 refine assign_one (i := 16) (.tmp 22) 6 _ _ _ (.bool false) (by kernel_rfl) (by rfl) (hc.at_ (of_decide_eq_true (by kernel_rfl)) (by rfl) 15 22 _ (.bool false) (by rfl) (by rfl) (by rfl)) (⟨Fm.out.on hc.bel, Fa.out.on hc.bel, Fb.out.on hc.bel⟩) ?_
 refine wpAnyH_done (by kernel_rfl) ?_ _
 refine NoPanic.normal ?_
 generalize hA : Act.put (over _ _ vs) (some 6) (.bool false) = A
 have hA0 : A.tmps.getD 6 undef = .bool false := by rw [← hA]; exact put_at _ _ _ (by rw [over_size]; exact Nat.le_of_ble_eq_true rfl)
 have hAd : A.defers = [] := by rw [← hA, put_defers, over_defers]
 clear hA hc
 go_wp2_with fail
 refine bodyPost_ret (v := .bool false) (by simp [results, Try.results58, go_sem] at hA0 ⊢; simp [hA0]) hAd ⟨rfl, BZ⟩

theorem may_any (A B M : Nat) (hA : A < 2 ^ 256) (hB : B < 2 ^ 256) (hM : M < 2 ^ 256) (w : World) : Calls Try.prog 58 #[num A, num B, num M] w fun e w' => e = .returned (.bool (decide (1 < M ∧ A < M ∧ B < M))) ∧ Below w.heap.size w w' := by
 have O : ∀ w, Calls Try.prog 46 #[.int .u64 1] w fun e w' => e = .returned (num 1) ∧ Below w.heap.size w w' := fun w => rof1_any 1 (by decide) w
 have K := rcmp_any M 1 hM (by decide)
 have J := rcmp_any A M hA hM
 have I := rcmp_any B M hB hM
 by_cases h1 : 1 < M
 ·by_cases h2 : A < M
  ·by_cases h3 : B < M
   ·rw [show decide (1 < M ∧ A < M ∧ B < M) = true from decide_eq_true ⟨h1, h2, h3⟩]
    exact may_yes A B M 1 _ _ _ (cmpN_pos h1) (cmpN_neg h2) (cmpN_neg h3) O K J I w
   ·rw [show decide (1 < M ∧ A < M ∧ B < M) = false from decide_eq_false fun h => h3 h.2.2]
    exact may_b A B M 1 _ _ _ (cmpN_pos h1) (cmpN_neg h2) (cmpN_ge (by omega)) O K J I w
  ·rw [show decide (1 < M ∧ A < M ∧ B < M) = false from decide_eq_false fun h => h2 h.2.1]
   exact may_a A B M 1 _ _ (cmpN_pos h1) (cmpN_ge (by omega)) O K J w
 ·rw [show decide (1 < M ∧ A < M ∧ B < M) = false from decide_eq_false fun h => h1 h.1]
  exact may_m A B M 1 _ (cmpN_le (by omega)) O K w

set_option maxRecDepth 100000 in
set_option maxHeartbeats 8000000 in
theorem radd4_no (A B M : Nat)
  (cm : ∀ w, Calls Try.prog 58 #[num A, num B, num M] w fun e w' => e = .returned (.bool false) ∧ Below w.heap.size w w')
  (w : World) : Calls Try.prog 37 #[num A, num B, num M] w fun e w' => e = .returned (.tuple #[.agg #[.int .u64 0, .int .u64 0, .int .u64 0, .int .u64 0], .int .i64 1]) ∧ Below w.heap.size w w' := by
 have Hcm := Lib.hid cm
 clear cm
 go_enter Try.func37, Try.ntmps37
 go_wp2_with fail
 have BW := Lib.hid (Below.refl w.heap.size w)
 have Ex : w.heap.size ≤ w.heap.size + 1 + 1 + 1 := by have := BW.out.size; omega
 have Dax : w.heap.size ≠ w.heap.size + 1 + 1 + 1 := by omega
 have Dbx : w.heap.size + 1 ≠ w.heap.size + 1 + 1 + 1 := by omega
 have Dmx : w.heap.size + 1 + 1 ≠ w.heap.size + 1 + 1 + 1 := by omega
 generalize hW1 : ((((w.alloc (.cells #[.int .u64 (wd A 0 : Nat), .int .u64 (wd A 1 : Nat), .int .u64 (wd A 2 : Nat), .int .u64 (wd A 3 : Nat)] 24)).alloc (.cells #[.int .u64 (wd B 0 : Nat), .int .u64 (wd B 1 : Nat), .int .u64 (wd B 2 : Nat), .int .u64 (wd B 3 : Nat)] 24)).alloc (.cells #[.int .u64 (wd M 0 : Nat), .int .u64 (wd M 1 : Nat), .int .u64 (wd M 2 : Nat), .int .u64 (wd M 3 : Nat)] 24)).alloc (.cells #[.int .u64 0, .int .u64 0, .int .u64 0, .int .u64 0] 24)) = W1 at *
 have Na : At W1 (w.heap.size) _ _ := at_of hW1 ((((At.at_ _ _ _ _ (by simp)).alloc _).alloc _).alloc _)
 have Nb : At W1 (w.heap.size + 1) _ _ := at_of hW1 (((At.at_ _ _ _ _ (by simp)).alloc _).alloc _)
 have Nm : At W1 (w.heap.size + 1 + 1) _ _ := at_of hW1 ((At.at_ _ _ _ _ (by simp)).alloc _)
 have Nx : At W1 (w.heap.size + 1 + 1 + 1) _ _ := at_of hW1 (At.at_ _ _ _ _ (by simp))
 have NB := gr_of hW1 (gr_alloc (gr_alloc (gr_alloc (gr_alloc BW.out _) _) _) _)
 clear hW1 BW 
 generalize w.heap.size + 1 + 1 + 1 = gx at *
 generalize w.heap.size + 1 + 1 = gm at *
 generalize w.heap.size + 1 = gb at *
 obtain ⟨ga, hg0⟩ : ∃ g, g = w.heap.size := ⟨_, rfl⟩
 rw [← hg0] at Na ⊢
 rw [← hg0] at Dax
 clear hg0
 have Fa := Lib.hid Na
 have Fb := Lib.hid Nb
 have Fm := Lib.hid Nm
 have Fx := Lib.hid Nx
 have BW := Lib.hid NB
 clear NB Na Nb Nm Nx
 refine (Hcm.out _).mono ?_
 rintro e v2 ⟨rfl, z2⟩
 have Na := Lib.hid (Fa.out.on z2)
 have Nb := Lib.hid (Fb.out.on z2)
 have Nm := Lib.hid (Fm.out.on z2)
 have Nx := Lib.hid (Fx.out.on z2)
 have NB := Lib.hid (bel_tr BW.out z2)
 clear BW z2 Fa Fb Fm Fx
 have Fa := Na
 have Fb := Nb
 have Fm := Nm
 have Fx := Nx
 have BW := NB
 clear NB Na Nb Nm Nx
 have Lx := Fx.out.lt
 have cx0 := Fx.out.c0
 have cx1 := Fx.out.c1
 have cx2 := Fx.out.c2
 have cx3 := Fx.out.c3
 have fx0 : v2.frozen? ⟨gx, 0, none⟩ = false := Fx.out.frozen 0
 have fx1 : v2.frozen? ⟨gx, 1, none⟩ = false := Fx.out.frozen 1
 have fx2 : v2.frozen? ⟨gx, 2, none⟩ = false := Fx.out.frozen 2
 have fx3 : v2.frozen? ⟨gx, 3, none⟩ = false := Fx.out.frozen 3
 go_wp2_with fail
 clear Lx cx0 cx1 cx2 cx3 fx0 fx1 fx2 fx3
 generalize hW3 : ((((v2.setCell ⟨gx, 0, none⟩ (.int .u64 0)).setCell ⟨gx, 1, none⟩ (.int .u64 0)).setCell ⟨gx, 2, none⟩ (.int .u64 0)).setCell ⟨gx, 3, none⟩ (.int .u64 0)) = W3 at *
 have Na := at_of hW3 ((Fa.out).far4 Dax _ _ _ _)
 have Nb := at_of hW3 ((Fb.out).far4 Dbx _ _ _ _)
 have Nm := at_of hW3 ((Fm.out).far4 Dmx _ _ _ _)
 have Nx := at_of hW3 ((Fx.out).put4 _ _ _ _)
 have NB := gr_of hW3 (((((BW.out).setCell Ex _).setCell Ex _).setCell Ex _).setCell Ex _)
 clear hW3 BW Fa Fb Fm Fx
 have Fa := Lib.hid Na
 have Fb := Lib.hid Nb
 have Fm := Lib.hid Nm
 have Fx := Lib.hid Nx
 have BW := Lib.hid NB
 clear NB Na Nb Nm Nx
 have Lx := Fx.out.lt
 have cx0 := Fx.out.c0
 have cx1 := Fx.out.c1
 have cx2 := Fx.out.c2
 have cx3 := Fx.out.c3
 refine bodyPost_ret (v := .tuple #[.agg #[.int .u64 0, .int .u64 0, .int .u64 0, .int .u64 0], .int .i64 1]) (by simp [results, Try.results37, go_sem, *]) rfl ⟨rfl, BW.out⟩

set_option maxRecDepth 100000 in
set_option maxHeartbeats 8000000 in
theorem rsub4_no (A B M : Nat)
  (cm : ∀ w, Calls Try.prog 58 #[num A, num B, num M] w fun e w' => e = .returned (.bool false) ∧ Below w.heap.size w w')
  (w : World) : Calls Try.prog 38 #[num A, num B, num M] w fun e w' => e = .returned (.tuple #[.agg #[.int .u64 0, .int .u64 0, .int .u64 0, .int .u64 0], .int .i64 1]) ∧ Below w.heap.size w w' := by
 have Hcm := Lib.hid cm
 clear cm
 go_enter Try.func38, Try.ntmps38
 go_wp2_with fail
 have BW := Lib.hid (Below.refl w.heap.size w)
 have Ex : w.heap.size ≤ w.heap.size + 1 + 1 + 1 := by have := BW.out.size; omega
 have Dax : w.heap.size ≠ w.heap.size + 1 + 1 + 1 := by omega
 have Dbx : w.heap.size + 1 ≠ w.heap.size + 1 + 1 + 1 := by omega
 have Dmx : w.heap.size + 1 + 1 ≠ w.heap.size + 1 + 1 + 1 := by omega
 generalize hW1 : ((((w.alloc (.cells #[.int .u64 (wd A 0 : Nat), .int .u64 (wd A 1 : Nat), .int .u64 (wd A 2 : Nat), .int .u64 (wd A 3 : Nat)] 24)).alloc (.cells #[.int .u64 (wd B 0 : Nat), .int .u64 (wd B 1 : Nat), .int .u64 (wd B 2 : Nat), .int .u64 (wd B 3 : Nat)] 24)).alloc (.cells #[.int .u64 (wd M 0 : Nat), .int .u64 (wd M 1 : Nat), .int .u64 (wd M 2 : Nat), .int .u64 (wd M 3 : Nat)] 24)).alloc (.cells #[.int .u64 0, .int .u64 0, .int .u64 0, .int .u64 0] 24)) = W1 at *
 have Na : At W1 (w.heap.size) _ _ := at_of hW1 ((((At.at_ _ _ _ _ (by simp)).alloc _).alloc _).alloc _)
 have Nb : At W1 (w.heap.size + 1) _ _ := at_of hW1 (((At.at_ _ _ _ _ (by simp)).alloc _).alloc _)
 have Nm : At W1 (w.heap.size + 1 + 1) _ _ := at_of hW1 ((At.at_ _ _ _ _ (by simp)).alloc _)
 have Nx : At W1 (w.heap.size + 1 + 1 + 1) _ _ := at_of hW1 (At.at_ _ _ _ _ (by simp))
 have NB := gr_of hW1 (gr_alloc (gr_alloc (gr_alloc (gr_alloc BW.out _) _) _) _)
 clear hW1 BW 
 generalize w.heap.size + 1 + 1 + 1 = gx at *
 generalize w.heap.size + 1 + 1 = gm at *
 generalize w.heap.size + 1 = gb at *
 obtain ⟨ga, hg0⟩ : ∃ g, g = w.heap.size := ⟨_, rfl⟩
 rw [← hg0] at Na ⊢
 rw [← hg0] at Dax
 clear hg0
 have Fa := Lib.hid Na
 have Fb := Lib.hid Nb
 have Fm := Lib.hid Nm
 have Fx := Lib.hid Nx
 have BW := Lib.hid NB
 clear NB Na Nb Nm Nx
 refine (Hcm.out _).mono ?_
 rintro e v2 ⟨rfl, z2⟩
 have Na := Lib.hid (Fa.out.on z2)
 have Nb := Lib.hid (Fb.out.on z2)
 have Nm := Lib.hid (Fm.out.on z2)
 have Nx := Lib.hid (Fx.out.on z2)
 have NB := Lib.hid (bel_tr BW.out z2)
 clear BW z2 Fa Fb Fm Fx
 have Fa := Na
 have Fb := Nb
 have Fm := Nm
 have Fx := Nx
 have BW := NB
 clear NB Na Nb Nm Nx
 have Lx := Fx.out.lt
 have cx0 := Fx.out.c0
 have cx1 := Fx.out.c1
 have cx2 := Fx.out.c2
 have cx3 := Fx.out.c3
 have fx0 : v2.frozen? ⟨gx, 0, none⟩ = false := Fx.out.frozen 0
 have fx1 : v2.frozen? ⟨gx, 1, none⟩ = false := Fx.out.frozen 1
 have fx2 : v2.frozen? ⟨gx, 2, none⟩ = false := Fx.out.frozen 2
 have fx3 : v2.frozen? ⟨gx, 3, none⟩ = false := Fx.out.frozen 3
 go_wp2_with fail
 clear Lx cx0 cx1 cx2 cx3 fx0 fx1 fx2 fx3
 generalize hW3 : ((((v2.setCell ⟨gx, 0, none⟩ (.int .u64 0)).setCell ⟨gx, 1, none⟩ (.int .u64 0)).setCell ⟨gx, 2, none⟩ (.int .u64 0)).setCell ⟨gx, 3, none⟩ (.int .u64 0)) = W3 at *
 have Na := at_of hW3 ((Fa.out).far4 Dax _ _ _ _)
 have Nb := at_of hW3 ((Fb.out).far4 Dbx _ _ _ _)
 have Nm := at_of hW3 ((Fm.out).far4 Dmx _ _ _ _)
 have Nx := at_of hW3 ((Fx.out).put4 _ _ _ _)
 have NB := gr_of hW3 (((((BW.out).setCell Ex _).setCell Ex _).setCell Ex _).setCell Ex _)
 clear hW3 BW Fa Fb Fm Fx
 have Fa := Lib.hid Na
 have Fb := Lib.hid Nb
 have Fm := Lib.hid Nm
 have Fx := Lib.hid Nx
 have BW := Lib.hid NB
 clear NB Na Nb Nm Nx
 have Lx := Fx.out.lt
 have cx0 := Fx.out.c0
 have cx1 := Fx.out.c1
 have cx2 := Fx.out.c2
 have cx3 := Fx.out.c3
 refine bodyPost_ret (v := .tuple #[.agg #[.int .u64 0, .int .u64 0, .int .u64 0, .int .u64 0], .int .i64 1]) (by simp [results, Try.results38, go_sem, *]) rfl ⟨rfl, BW.out⟩

set_option maxRecDepth 100000 in
set_option maxHeartbeats 8000000 in
theorem rmul4_no (A B M : Nat)
  (cm : ∀ w, Calls Try.prog 58 #[num A, num B, num M] w fun e w' => e = .returned (.bool false) ∧ Below w.heap.size w w')
  (w : World) : Calls Try.prog 39 #[num A, num B, num M] w fun e w' => e = .returned (.tuple #[.agg #[.int .u64 0, .int .u64 0, .int .u64 0, .int .u64 0], .int .i64 1]) ∧ Below w.heap.size w w' := by
 have Hcm := Lib.hid cm
 clear cm
 go_enter Try.func39, Try.ntmps39
 go_wp2_with fail
 have BW := Lib.hid (Below.refl w.heap.size w)
 have Ex : w.heap.size ≤ w.heap.size + 1 + 1 + 1 := by have := BW.out.size; omega
 have Dax : w.heap.size ≠ w.heap.size + 1 + 1 + 1 := by omega
 have Dbx : w.heap.size + 1 ≠ w.heap.size + 1 + 1 + 1 := by omega
 have Dmx : w.heap.size + 1 + 1 ≠ w.heap.size + 1 + 1 + 1 := by omega
 generalize hW1 : ((((w.alloc (.cells #[.int .u64 (wd A 0 : Nat), .int .u64 (wd A 1 : Nat), .int .u64 (wd A 2 : Nat), .int .u64 (wd A 3 : Nat)] 24)).alloc (.cells #[.int .u64 (wd B 0 : Nat), .int .u64 (wd B 1 : Nat), .int .u64 (wd B 2 : Nat), .int .u64 (wd B 3 : Nat)] 24)).alloc (.cells #[.int .u64 (wd M 0 : Nat), .int .u64 (wd M 1 : Nat), .int .u64 (wd M 2 : Nat), .int .u64 (wd M 3 : Nat)] 24)).alloc (.cells #[.int .u64 0, .int .u64 0, .int .u64 0, .int .u64 0] 24)) = W1 at *
 have Na : At W1 (w.heap.size) _ _ := at_of hW1 ((((At.at_ _ _ _ _ (by simp)).alloc _).alloc _).alloc _)
 have Nb : At W1 (w.heap.size + 1) _ _ := at_of hW1 (((At.at_ _ _ _ _ (by simp)).alloc _).alloc _)
 have Nm : At W1 (w.heap.size + 1 + 1) _ _ := at_of hW1 ((At.at_ _ _ _ _ (by simp)).alloc _)
 have Nx : At W1 (w.heap.size + 1 + 1 + 1) _ _ := at_of hW1 (At.at_ _ _ _ _ (by simp))
 have NB := gr_of hW1 (gr_alloc (gr_alloc (gr_alloc (gr_alloc BW.out _) _) _) _)
 clear hW1 BW 
 generalize w.heap.size + 1 + 1 + 1 = gx at *
 generalize w.heap.size + 1 + 1 = gm at *
 generalize w.heap.size + 1 = gb at *
 obtain ⟨ga, hg0⟩ : ∃ g, g = w.heap.size := ⟨_, rfl⟩
 rw [← hg0] at Na ⊢
 rw [← hg0] at Dax
 clear hg0
 have Fa := Lib.hid Na
 have Fb := Lib.hid Nb
 have Fm := Lib.hid Nm
 have Fx := Lib.hid Nx
 have BW := Lib.hid NB
 clear NB Na Nb Nm Nx
 refine (Hcm.out _).mono ?_
 rintro e v2 ⟨rfl, z2⟩
 have Na := Lib.hid (Fa.out.on z2)
 have Nb := Lib.hid (Fb.out.on z2)
 have Nm := Lib.hid (Fm.out.on z2)
 have Nx := Lib.hid (Fx.out.on z2)
 have NB := Lib.hid (bel_tr BW.out z2)
 clear BW z2 Fa Fb Fm Fx
 have Fa := Na
 have Fb := Nb
 have Fm := Nm
 have Fx := Nx
 have BW := NB
 clear NB Na Nb Nm Nx
 have Lx := Fx.out.lt
 have cx0 := Fx.out.c0
 have cx1 := Fx.out.c1
 have cx2 := Fx.out.c2
 have cx3 := Fx.out.c3
 have fx0 : v2.frozen? ⟨gx, 0, none⟩ = false := Fx.out.frozen 0
 have fx1 : v2.frozen? ⟨gx, 1, none⟩ = false := Fx.out.frozen 1
 have fx2 : v2.frozen? ⟨gx, 2, none⟩ = false := Fx.out.frozen 2
 have fx3 : v2.frozen? ⟨gx, 3, none⟩ = false := Fx.out.frozen 3
 go_wp2_with fail
 clear Lx cx0 cx1 cx2 cx3 fx0 fx1 fx2 fx3
 generalize hW3 : ((((v2.setCell ⟨gx, 0, none⟩ (.int .u64 0)).setCell ⟨gx, 1, none⟩ (.int .u64 0)).setCell ⟨gx, 2, none⟩ (.int .u64 0)).setCell ⟨gx, 3, none⟩ (.int .u64 0)) = W3 at *
 have Na := at_of hW3 ((Fa.out).far4 Dax _ _ _ _)
 have Nb := at_of hW3 ((Fb.out).far4 Dbx _ _ _ _)
 have Nm := at_of hW3 ((Fm.out).far4 Dmx _ _ _ _)
 have Nx := at_of hW3 ((Fx.out).put4 _ _ _ _)
 have NB := gr_of hW3 (((((BW.out).setCell Ex _).setCell Ex _).setCell Ex _).setCell Ex _)
 clear hW3 BW Fa Fb Fm Fx
 have Fa := Lib.hid Na
 have Fb := Lib.hid Nb
 have Fm := Lib.hid Nm
 have Fx := Lib.hid Nx
 have BW := Lib.hid NB
 clear NB Na Nb Nm Nx
 have Lx := Fx.out.lt
 have cx0 := Fx.out.c0
 have cx1 := Fx.out.c1
 have cx2 := Fx.out.c2
 have cx3 := Fx.out.c3
 refine bodyPost_ret (v := .tuple #[.agg #[.int .u64 0, .int .u64 0, .int .u64 0, .int .u64 0], .int .i64 1]) (by simp [results, Try.results39, go_sem, *]) rfl ⟨rfl, BW.out⟩

set_option maxRecDepth 100000 in
set_option maxHeartbeats 8000000 in
theorem rsub4_a (A B M S : Nat)
  (cm : ∀ w, Calls Try.prog 58 #[num A, num B, num M] w fun e w' => e = .returned (.bool true) ∧ Below w.heap.size w w')
  (cs : ∀ w, Calls Try.prog 47 #[num A, num B] w fun e w' => e = .returned (.tuple #[num S, .int .u64 0]) ∧ Below w.heap.size w w')
  (w : World) : Calls Try.prog 38 #[num A, num B, num M] w fun e w' => e = .returned (.tuple #[num S, .int .i64 0]) ∧ Below w.heap.size w w' := by
 have Hcm := Lib.hid cm
 have Hcs := Lib.hid cs
 clear cm cs
 go_enter Try.func38, Try.ntmps38
 go_wp2_with fail
 have BW := Lib.hid (Below.refl w.heap.size w)
 have Ex : w.heap.size ≤ w.heap.size + 1 + 1 + 1 := by have := BW.out.size; omega
 have Dax : w.heap.size ≠ w.heap.size + 1 + 1 + 1 := by omega
 have Dbx : w.heap.size + 1 ≠ w.heap.size + 1 + 1 + 1 := by omega
 have Dmx : w.heap.size + 1 + 1 ≠ w.heap.size + 1 + 1 + 1 := by omega
 generalize hW1 : ((((w.alloc (.cells #[.int .u64 (wd A 0 : Nat), .int .u64 (wd A 1 : Nat), .int .u64 (wd A 2 : Nat), .int .u64 (wd A 3 : Nat)] 24)).alloc (.cells #[.int .u64 (wd B 0 : Nat), .int .u64 (wd B 1 : Nat), .int .u64 (wd B 2 : Nat), .int .u64 (wd B 3 : Nat)] 24)).alloc (.cells #[.int .u64 (wd M 0 : Nat), .int .u64 (wd M 1 : Nat), .int .u64 (wd M 2 : Nat), .int .u64 (wd M 3 : Nat)] 24)).alloc (.cells #[.int .u64 0, .int .u64 0, .int .u64 0, .int .u64 0] 24)) = W1 at *
 have Na : At W1 (w.heap.size) _ _ := at_of hW1 ((((At.at_ _ _ _ _ (by simp)).alloc _).alloc _).alloc _)
 have Nb : At W1 (w.heap.size + 1) _ _ := at_of hW1 (((At.at_ _ _ _ _ (by simp)).alloc _).alloc _)
 have Nm : At W1 (w.heap.size + 1 + 1) _ _ := at_of hW1 ((At.at_ _ _ _ _ (by simp)).alloc _)
 have Nx : At W1 (w.heap.size + 1 + 1 + 1) _ _ := at_of hW1 (At.at_ _ _ _ _ (by simp))
 have NB := gr_of hW1 (gr_alloc (gr_alloc (gr_alloc (gr_alloc BW.out _) _) _) _)
 clear hW1 BW 
 generalize w.heap.size + 1 + 1 + 1 = gx at *
 generalize w.heap.size + 1 + 1 = gm at *
 generalize w.heap.size + 1 = gb at *
 obtain ⟨ga, hg0⟩ : ∃ g, g = w.heap.size := ⟨_, rfl⟩
 rw [← hg0] at Na ⊢
 rw [← hg0] at Dax
 clear hg0
 have Fa := Lib.hid Na
 have Fb := Lib.hid Nb
 have Fm := Lib.hid Nm
 have Fx := Lib.hid Nx
 have BW := Lib.hid NB
 clear NB Na Nb Nm Nx
 refine (Hcm.out _).mono ?_
 rintro e v2 ⟨rfl, z2⟩
 have Na := Lib.hid (Fa.out.on z2)
 have Nb := Lib.hid (Fb.out.on z2)
 have Nm := Lib.hid (Fm.out.on z2)
 have Nx := Lib.hid (Fx.out.on z2)
 have NB := Lib.hid (bel_tr BW.out z2)
 clear BW z2 Fa Fb Fm Fx
 have Fa := Na
 have Fb := Nb
 have Fm := Nm
 have Fx := Nx
 have BW := NB
 clear NB Na Nb Nm Nx
 have La := Fa.out.lt
 have ca0 := Fa.out.c0
 have ca1 := Fa.out.c1
 have ca2 := Fa.out.c2
 have ca3 := Fa.out.c3
 have Lb := Fb.out.lt
 have cb0 := Fb.out.c0
 have cb1 := Fb.out.c1
 have cb2 := Fb.out.c2
 have cb3 := Fb.out.c3
 go_wp2_with fail
 clear La ca0 ca1 ca2 ca3 Lb cb0 cb1 cb2 cb3
 refine (Hcs.out _).mono ?_
 rintro e v3 ⟨rfl, z3⟩
 have Na := Lib.hid (Fa.out.on z3)
 have Nb := Lib.hid (Fb.out.on z3)
 have Nm := Lib.hid (Fm.out.on z3)
 have Nx := Lib.hid (Fx.out.on z3)
 have NB := Lib.hid (bel_tr BW.out z3)
 clear BW z3 Fa Fb Fm Fx
 have Fa := Na
 have Fb := Nb
 have Fm := Nm
 have Fx := Nx
 have BW := NB
 clear NB Na Nb Nm Nx
 have Lx := Fx.out.lt
 have cx0 := Fx.out.c0
 have cx1 := Fx.out.c1
 have cx2 := Fx.out.c2
 have cx3 := Fx.out.c3
 have fx0 : v3.frozen? ⟨gx, 0, none⟩ = false := Fx.out.frozen 0
 have fx1 : v3.frozen? ⟨gx, 1, none⟩ = false := Fx.out.frozen 1
 have fx2 : v3.frozen? ⟨gx, 2, none⟩ = false := Fx.out.frozen 2
 have fx3 : v3.frozen? ⟨gx, 3, none⟩ = false := Fx.out.frozen 3
 go_wp2_with fail
 clear Lx cx0 cx1 cx2 cx3 fx0 fx1 fx2 fx3
 generalize hW4 : ((((v3.setCell ⟨gx, 0, none⟩ (.int .u64 (wd S 0 : Nat))).setCell ⟨gx, 1, none⟩ (.int .u64 (wd S 1 : Nat))).setCell ⟨gx, 2, none⟩ (.int .u64 (wd S 2 : Nat))).setCell ⟨gx, 3, none⟩ (.int .u64 (wd S 3 : Nat))) = W4 at *
 have Na := at_of hW4 ((Fa.out).far4 Dax _ _ _ _)
 have Nb := at_of hW4 ((Fb.out).far4 Dbx _ _ _ _)
 have Nm := at_of hW4 ((Fm.out).far4 Dmx _ _ _ _)
 have Nx := at_of hW4 ((Fx.out).put4 _ _ _ _)
 have NB := gr_of hW4 (((((BW.out).setCell Ex _).setCell Ex _).setCell Ex _).setCell Ex _)
 clear hW4 BW Fa Fb Fm Fx
 have Fa := Lib.hid Na
 have Fb := Lib.hid Nb
 have Fm := Lib.hid Nm
 have Fx := Lib.hid Nx
 have BW := Lib.hid NB
 clear NB Na Nb Nm Nx
 have Dxs : gx ≠ W4.heap.size := by have := Fx.out.lt; omega
 generalize hW5 : (W4.alloc (.cells #[.int .u64 (wd S 0 : Nat), .int .u64 (wd S 1 : Nat), .int .u64 (wd S 2 : Nat), .int .u64 (wd S 3 : Nat)] 24)) = W5 at *
 have Ns : At W5 (W4.heap.size) _ _ := at_of hW5 (At.at_ _ _ _ _ (by simp))
 have Na := at_of hW5 (Fa.out.alloc _)
 have Nb := at_of hW5 (Fb.out.alloc _)
 have Nm := at_of hW5 (Fm.out.alloc _)
 have Nx := at_of hW5 (Fx.out.alloc _)
 have NB := gr_of hW5 (gr_alloc BW.out _)
 clear hW5 BW Fa Fb Fm Fx
 generalize W4.heap.size = gs at *
 have Fa := Lib.hid Na
 have Fb := Lib.hid Nb
 have Fm := Lib.hid Nm
 have Fx := Lib.hid Nx
 have Fs := Lib.hid Ns
 have BW := Lib.hid NB
 clear NB Na Nb Nm Nx Ns
 have Lx := Fx.out.lt
 have cx0 := Fx.out.c0
 have cx1 := Fx.out.c1
 have cx2 := Fx.out.c2
 have cx3 := Fx.out.c3
 refine bodyPost_ret (v := .tuple #[num S, .int .i64 0]) (by simp [results, Try.results38, go_sem, *]) rfl ⟨rfl, BW.out⟩

set_option maxRecDepth 100000 in
set_option maxHeartbeats 8000000 in
theorem rsub4_b (A B M S L c : Nat)
  (cm : ∀ w, Calls Try.prog 58 #[num A, num B, num M] w fun e w' => e = .returned (.bool true) ∧ Below w.heap.size w w')
  (cs : ∀ w, Calls Try.prog 47 #[num A, num B] w fun e w' => e = .returned (.tuple #[num S, .int .u64 1]) ∧ Below w.heap.size w w')
  (ct : ∀ w, Calls Try.prog 59 #[num S, num M] w fun e w' => e = .returned (.tuple #[num L, .int .u64 (c : Nat)]) ∧ Below w.heap.size w w')
  (w : World) : Calls Try.prog 38 #[num A, num B, num M] w fun e w' => e = .returned (.tuple #[num L, .int .i64 0]) ∧ Below w.heap.size w w' := by
 have Hcm := Lib.hid cm
 have Hcs := Lib.hid cs
 have Hct := Lib.hid ct
 clear cm cs ct
 go_enter Try.func38, Try.ntmps38
 go_wp2_with fail
 have BW := Lib.hid (Below.refl w.heap.size w)
 have Ex : w.heap.size ≤ w.heap.size + 1 + 1 + 1 := by have := BW.out.size; omega
 have Dax : w.heap.size ≠ w.heap.size + 1 + 1 + 1 := by omega
 have Dbx : w.heap.size + 1 ≠ w.heap.size + 1 + 1 + 1 := by omega
 have Dmx : w.heap.size + 1 + 1 ≠ w.heap.size + 1 + 1 + 1 := by omega
 generalize hW1 : ((((w.alloc (.cells #[.int .u64 (wd A 0 : Nat), .int .u64 (wd A 1 : Nat), .int .u64 (wd A 2 : Nat), .int .u64 (wd A 3 : Nat)] 24)).alloc (.cells #[.int .u64 (wd B 0 : Nat), .int .u64 (wd B 1 : Nat), .int .u64 (wd B 2 : Nat), .int .u64 (wd B 3 : Nat)] 24)).alloc (.cells #[.int .u64 (wd M 0 : Nat), .int .u64 (wd M 1 : Nat), .int .u64 (wd M 2 : Nat), .int .u64 (wd M 3 : Nat)] 24)).alloc (.cells #[.int .u64 0, .int .u64 0, .int .u64 0, .int .u64 0] 24)) = W1 at *
 have Na : At W1 (w.heap.size) _ _ := at_of hW1 ((((At.at_ _ _ _ _ (by simp)).alloc _).alloc _).alloc _)
 have Nb : At W1 (w.heap.size + 1) _ _ := at_of hW1 (((At.at_ _ _ _ _ (by simp)).alloc _).alloc _)
 have Nm : At W1 (w.heap.size + 1 + 1) _ _ := at_of hW1 ((At.at_ _ _ _ _ (by simp)).alloc _)
 have Nx : At W1 (w.heap.size + 1 + 1 + 1) _ _ := at_of hW1 (At.at_ _ _ _ _ (by simp))
 have NB := gr_of hW1 (gr_alloc (gr_alloc (gr_alloc (gr_alloc BW.out _) _) _) _)
 clear hW1 BW 
 generalize w.heap.size + 1 + 1 + 1 = gx at *
 generalize w.heap.size + 1 + 1 = gm at *
 generalize w.heap.size + 1 = gb at *
 obtain ⟨ga, hg0⟩ : ∃ g, g = w.heap.size := ⟨_, rfl⟩
 rw [← hg0] at Na ⊢
 rw [← hg0] at Dax
 clear hg0
 have Fa := Lib.hid Na
 have Fb := Lib.hid Nb
 have Fm := Lib.hid Nm
 have Fx := Lib.hid Nx
 have BW := Lib.hid NB
 clear NB Na Nb Nm Nx
 refine (Hcm.out _).mono ?_
 rintro e v2 ⟨rfl, z2⟩
 have Na := Lib.hid (Fa.out.on z2)
 have Nb := Lib.hid (Fb.out.on z2)
 have Nm := Lib.hid (Fm.out.on z2)
 have Nx := Lib.hid (Fx.out.on z2)
 have NB := Lib.hid (bel_tr BW.out z2)
 clear BW z2 Fa Fb Fm Fx
 have Fa := Na
 have Fb := Nb
 have Fm := Nm
 have Fx := Nx
 have BW := NB
 clear NB Na Nb Nm Nx
 have La := Fa.out.lt
 have ca0 := Fa.out.c0
 have ca1 := Fa.out.c1
 have ca2 := Fa.out.c2
 have ca3 := Fa.out.c3
 have Lb := Fb.out.lt
 have cb0 := Fb.out.c0
 have cb1 := Fb.out.c1
 have cb2 := Fb.out.c2
 have cb3 := Fb.out.c3
 go_wp2_with fail
 clear La ca0 ca1 ca2 ca3 Lb cb0 cb1 cb2 cb3
 refine (Hcs.out _).mono ?_
 rintro e v3 ⟨rfl, z3⟩
 have Na := Lib.hid (Fa.out.on z3)
 have Nb := Lib.hid (Fb.out.on z3)
 have Nm := Lib.hid (Fm.out.on z3)
 have Nx := Lib.hid (Fx.out.on z3)
 have NB := Lib.hid (bel_tr BW.out z3)
 clear BW z3 Fa Fb Fm Fx
 have Fa := Na
 have Fb := Nb
 have Fm := Nm
 have Fx := Nx
 have BW := NB
 clear NB Na Nb Nm Nx
 have Lm := Fm.out.lt
 have cm0 := Fm.out.c0
 have cm1 := Fm.out.c1
 have cm2 := Fm.out.c2
 have cm3 := Fm.out.c3
 go_wp2_with fail
 clear Lm cm0 cm1 cm2 cm3
 have Es : w.heap.size ≤ v3.heap.size := by have := BW.out.size; omega
 have Das : ga ≠ v3.heap.size := by have := Fa.out.lt; omega
 have Dbs : gb ≠ v3.heap.size := by have := Fb.out.lt; omega
 have Dms : gm ≠ v3.heap.size := by have := Fm.out.lt; omega
 have Dxs : gx ≠ v3.heap.size := by have := Fx.out.lt; omega
 generalize hW4 : (v3.alloc (.cells #[.int .u64 (wd S 0 : Nat), .int .u64 (wd S 1 : Nat), .int .u64 (wd S 2 : Nat), .int .u64 (wd S 3 : Nat)] 24)) = W4 at *
 have Ns : At W4 (v3.heap.size) _ _ := at_of hW4 (At.at_ _ _ _ _ (by simp))
 have Na := at_of hW4 (Fa.out.alloc _)
 have Nb := at_of hW4 (Fb.out.alloc _)
 have Nm := at_of hW4 (Fm.out.alloc _)
 have Nx := at_of hW4 (Fx.out.alloc _)
 have NB := gr_of hW4 (gr_alloc BW.out _)
 clear hW4 BW Fa Fb Fm Fx
 generalize v3.heap.size = gs at *
 have Fa := Lib.hid Na
 have Fb := Lib.hid Nb
 have Fm := Lib.hid Nm
 have Fx := Lib.hid Nx
 have Fs := Lib.hid Ns
 have BW := Lib.hid NB
 clear NB Na Nb Nm Nx Ns
 refine (Hct.out _).mono ?_
 rintro e v5 ⟨rfl, z5⟩
 have Na := Lib.hid (Fa.out.on z5)
 have Nb := Lib.hid (Fb.out.on z5)
 have Nm := Lib.hid (Fm.out.on z5)
 have Nx := Lib.hid (Fx.out.on z5)
 have Ns := Lib.hid (Fs.out.on z5)
 have NB := Lib.hid (bel_tr BW.out z5)
 clear BW z5 Fa Fb Fm Fx Fs
 have Fa := Na
 have Fb := Nb
 have Fm := Nm
 have Fx := Nx
 have Fs := Ns
 have BW := NB
 clear NB Na Nb Nm Nx Ns
 have Ls := Fs.out.lt
 have cs0 := Fs.out.c0
 have cs1 := Fs.out.c1
 have cs2 := Fs.out.c2
 have cs3 := Fs.out.c3
 have fs0 : v5.frozen? ⟨gs, 0, none⟩ = false := Fs.out.frozen 0
 have fs1 : v5.frozen? ⟨gs, 1, none⟩ = false := Fs.out.frozen 1
 have fs2 : v5.frozen? ⟨gs, 2, none⟩ = false := Fs.out.frozen 2
 have fs3 : v5.frozen? ⟨gs, 3, none⟩ = false := Fs.out.frozen 3
 have Lx := Fx.out.lt
 have cx0 := Fx.out.c0
 have cx1 := Fx.out.c1
 have cx2 := Fx.out.c2
 have cx3 := Fx.out.c3
 have fx0 : v5.frozen? ⟨gx, 0, none⟩ = false := Fx.out.frozen 0
 have fx1 : v5.frozen? ⟨gx, 1, none⟩ = false := Fx.out.frozen 1
 have fx2 : v5.frozen? ⟨gx, 2, none⟩ = false := Fx.out.frozen 2
 have fx3 : v5.frozen? ⟨gx, 3, none⟩ = false := Fx.out.frozen 3
 go_wp2_with fail
 clear Ls cs0 cs1 cs2 cs3 fs0 fs1 fs2 fs3 Lx cx0 cx1 cx2 cx3 fx0 fx1 fx2 fx3
 generalize hW6 : ((((((((v5.setCell ⟨gs, 0, none⟩ (.int .u64 (wd L 0 : Nat))).setCell ⟨gs, 1, none⟩ (.int .u64 (wd L 1 : Nat))).setCell ⟨gs, 2, none⟩ (.int .u64 (wd L 2 : Nat))).setCell ⟨gs, 3, none⟩ (.int .u64 (wd L 3 : Nat))).setCell ⟨gx, 0, none⟩ (.int .u64 (wd L 0 : Nat))).setCell ⟨gx, 1, none⟩ (.int .u64 (wd L 1 : Nat))).setCell ⟨gx, 2, none⟩ (.int .u64 (wd L 2 : Nat))).setCell ⟨gx, 3, none⟩ (.int .u64 (wd L 3 : Nat))) = W6 at *
 have Na := at_of hW6 (((Fa.out).far4 Das _ _ _ _).far4 Dax _ _ _ _)
 have Nb := at_of hW6 (((Fb.out).far4 Dbs _ _ _ _).far4 Dbx _ _ _ _)
 have Nm := at_of hW6 (((Fm.out).far4 Dms _ _ _ _).far4 Dmx _ _ _ _)
 have Nx := at_of hW6 (((Fx.out).far4 Dxs _ _ _ _).put4 _ _ _ _)
 have Ns := at_of hW6 (((Fs.out).put4 _ _ _ _).far4 Dxs.symm _ _ _ _)
 have NB := gr_of hW6 (((((((((BW.out).setCell Es _).setCell Es _).setCell Es _).setCell Es _).setCell Ex _).setCell Ex _).setCell Ex _).setCell Ex _)
 clear hW6 BW Fa Fb Fm Fx Fs
 have Fa := Lib.hid Na
 have Fb := Lib.hid Nb
 have Fm := Lib.hid Nm
 have Fx := Lib.hid Nx
 have Fs := Lib.hid Ns
 have BW := Lib.hid NB
 clear NB Na Nb Nm Nx Ns
 have Lx := Fx.out.lt
 have cx0 := Fx.out.c0
 have cx1 := Fx.out.c1
 have cx2 := Fx.out.c2
 have cx3 := Fx.out.c3
 refine bodyPost_ret (v := .tuple #[num L, .int .i64 0]) (by simp [results, Try.results38, go_sem, *]) rfl ⟨rfl, BW.out⟩

set_option maxRecDepth 100000 in
set_option maxHeartbeats 8000000 in
theorem radd4_over (A B M S L c : Nat)
  (cm : ∀ w, Calls Try.prog 58 #[num A, num B, num M] w fun e w' => e = .returned (.bool true) ∧ Below w.heap.size w w')
  (cs : ∀ w, Calls Try.prog 59 #[num A, num B] w fun e w' => e = .returned (.tuple #[num S, .int .u64 1]) ∧ Below w.heap.size w w')
  (ct : ∀ w, Calls Try.prog 47 #[num S, num M] w fun e w' => e = .returned (.tuple #[num L, .int .u64 (c : Nat)]) ∧ Below w.heap.size w w')
  (w : World) : Calls Try.prog 37 #[num A, num B, num M] w fun e w' => e = .returned (.tuple #[num L, .int .i64 0]) ∧ Below w.heap.size w w' := by
 have Hcm := Lib.hid cm
 have Hcs := Lib.hid cs
 have Hct := Lib.hid ct
 clear cm cs ct
 go_enter Try.func37, Try.ntmps37
 go_wp2_with fail
 have BW := Lib.hid (Below.refl w.heap.size w)
 have Ex : w.heap.size ≤ w.heap.size + 1 + 1 + 1 := by have := BW.out.size; omega
 have Dax : w.heap.size ≠ w.heap.size + 1 + 1 + 1 := by omega
 have Dbx : w.heap.size + 1 ≠ w.heap.size + 1 + 1 + 1 := by omega
 have Dmx : w.heap.size + 1 + 1 ≠ w.heap.size + 1 + 1 + 1 := by omega
 generalize hW1 : ((((w.alloc (.cells #[.int .u64 (wd A 0 : Nat), .int .u64 (wd A 1 : Nat), .int .u64 (wd A 2 : Nat), .int .u64 (wd A 3 : Nat)] 24)).alloc (.cells #[.int .u64 (wd B 0 : Nat), .int .u64 (wd B 1 : Nat), .int .u64 (wd B 2 : Nat), .int .u64 (wd B 3 : Nat)] 24)).alloc (.cells #[.int .u64 (wd M 0 : Nat), .int .u64 (wd M 1 : Nat), .int .u64 (wd M 2 : Nat), .int .u64 (wd M 3 : Nat)] 24)).alloc (.cells #[.int .u64 0, .int .u64 0, .int .u64 0, .int .u64 0] 24)) = W1 at *
 have Na : At W1 (w.heap.size) _ _ := at_of hW1 ((((At.at_ _ _ _ _ (by simp)).alloc _).alloc _).alloc _)
 have Nb : At W1 (w.heap.size + 1) _ _ := at_of hW1 (((At.at_ _ _ _ _ (by simp)).alloc _).alloc _)
 have Nm : At W1 (w.heap.size + 1 + 1) _ _ := at_of hW1 ((At.at_ _ _ _ _ (by simp)).alloc _)
 have Nx : At W1 (w.heap.size + 1 + 1 + 1) _ _ := at_of hW1 (At.at_ _ _ _ _ (by simp))
 have NB := gr_of hW1 (gr_alloc (gr_alloc (gr_alloc (gr_alloc BW.out _) _) _) _)
 clear hW1 BW 
 generalize w.heap.size + 1 + 1 + 1 = gx at *
 generalize w.heap.size + 1 + 1 = gm at *
 generalize w.heap.size + 1 = gb at *
 obtain ⟨ga, hg0⟩ : ∃ g, g = w.heap.size := ⟨_, rfl⟩
 rw [← hg0] at Na ⊢
 rw [← hg0] at Dax
 clear hg0
 have Fa := Lib.hid Na
 have Fb := Lib.hid Nb
 have Fm := Lib.hid Nm
 have Fx := Lib.hid Nx
 have BW := Lib.hid NB
 clear NB Na Nb Nm Nx
 refine (Hcm.out _).mono ?_
 rintro e v2 ⟨rfl, z2⟩
 have Na := Lib.hid (Fa.out.on z2)
 have Nb := Lib.hid (Fb.out.on z2)
 have Nm := Lib.hid (Fm.out.on z2)
 have Nx := Lib.hid (Fx.out.on z2)
 have NB := Lib.hid (bel_tr BW.out z2)
 clear BW z2 Fa Fb Fm Fx
 have Fa := Na
 have Fb := Nb
 have Fm := Nm
 have Fx := Nx
 have BW := NB
 clear NB Na Nb Nm Nx
 have La := Fa.out.lt
 have ca0 := Fa.out.c0
 have ca1 := Fa.out.c1
 have ca2 := Fa.out.c2
 have ca3 := Fa.out.c3
 have Lb := Fb.out.lt
 have cb0 := Fb.out.c0
 have cb1 := Fb.out.c1
 have cb2 := Fb.out.c2
 have cb3 := Fb.out.c3
 go_wp2_with fail
 clear La ca0 ca1 ca2 ca3 Lb cb0 cb1 cb2 cb3
 refine (Hcs.out _).mono ?_
 rintro e v3 ⟨rfl, z3⟩
 have Na := Lib.hid (Fa.out.on z3)
 have Nb := Lib.hid (Fb.out.on z3)
 have Nm := Lib.hid (Fm.out.on z3)
 have Nx := Lib.hid (Fx.out.on z3)
 have NB := Lib.hid (bel_tr BW.out z3)
 clear BW z3 Fa Fb Fm Fx
 have Fa := Na
 have Fb := Nb
 have Fm := Nm
 have Fx := Nx
 have BW := NB
 clear NB Na Nb Nm Nx
 have Lm := Fm.out.lt
 have cm0 := Fm.out.c0
 have cm1 := Fm.out.c1
 have cm2 := Fm.out.c2
 have cm3 := Fm.out.c3
 go_wp2_with fail
 clear Lm cm0 cm1 cm2 cm3
 have Es : w.heap.size ≤ v3.heap.size := by have := BW.out.size; omega
 have Das : ga ≠ v3.heap.size := by have := Fa.out.lt; omega
 have Dbs : gb ≠ v3.heap.size := by have := Fb.out.lt; omega
 have Dms : gm ≠ v3.heap.size := by have := Fm.out.lt; omega
 have Dxs : gx ≠ v3.heap.size := by have := Fx.out.lt; omega
 generalize hW4 : (v3.alloc (.cells #[.int .u64 (wd S 0 : Nat), .int .u64 (wd S 1 : Nat), .int .u64 (wd S 2 : Nat), .int .u64 (wd S 3 : Nat)] 24)) = W4 at *
 have Ns : At W4 (v3.heap.size) _ _ := at_of hW4 (At.at_ _ _ _ _ (by simp))
 have Na := at_of hW4 (Fa.out.alloc _)
 have Nb := at_of hW4 (Fb.out.alloc _)
 have Nm := at_of hW4 (Fm.out.alloc _)
 have Nx := at_of hW4 (Fx.out.alloc _)
 have NB := gr_of hW4 (gr_alloc BW.out _)
 clear hW4 BW Fa Fb Fm Fx
 generalize v3.heap.size = gs at *
 have Fa := Lib.hid Na
 have Fb := Lib.hid Nb
 have Fm := Lib.hid Nm
 have Fx := Lib.hid Nx
 have Fs := Lib.hid Ns
 have BW := Lib.hid NB
 clear NB Na Nb Nm Nx Ns
 refine (Hct.out _).mono ?_
 rintro e v5 ⟨rfl, z5⟩
 have Na := Lib.hid (Fa.out.on z5)
 have Nb := Lib.hid (Fb.out.on z5)
 have Nm := Lib.hid (Fm.out.on z5)
 have Nx := Lib.hid (Fx.out.on z5)
 have Ns := Lib.hid (Fs.out.on z5)
 have NB := Lib.hid (bel_tr BW.out z5)
 clear BW z5 Fa Fb Fm Fx Fs
 have Fa := Na
 have Fb := Nb
 have Fm := Nm
 have Fx := Nx
 have Fs := Ns
 have BW := NB
 clear NB Na Nb Nm Nx Ns
 have Ls := Fs.out.lt
 have cs0 := Fs.out.c0
 have cs1 := Fs.out.c1
 have cs2 := Fs.out.c2
 have cs3 := Fs.out.c3
 have fs0 : v5.frozen? ⟨gs, 0, none⟩ = false := Fs.out.frozen 0
 have fs1 : v5.frozen? ⟨gs, 1, none⟩ = false := Fs.out.frozen 1
 have fs2 : v5.frozen? ⟨gs, 2, none⟩ = false := Fs.out.frozen 2
 have fs3 : v5.frozen? ⟨gs, 3, none⟩ = false := Fs.out.frozen 3
 have Lx := Fx.out.lt
 have cx0 := Fx.out.c0
 have cx1 := Fx.out.c1
 have cx2 := Fx.out.c2
 have cx3 := Fx.out.c3
 have fx0 : v5.frozen? ⟨gx, 0, none⟩ = false := Fx.out.frozen 0
 have fx1 : v5.frozen? ⟨gx, 1, none⟩ = false := Fx.out.frozen 1
 have fx2 : v5.frozen? ⟨gx, 2, none⟩ = false := Fx.out.frozen 2
 have fx3 : v5.frozen? ⟨gx, 3, none⟩ = false := Fx.out.frozen 3
 go_wp2_with fail
 clear Ls cs0 cs1 cs2 cs3 fs0 fs1 fs2 fs3 Lx cx0 cx1 cx2 cx3 fx0 fx1 fx2 fx3
 generalize hW6 : ((((((((v5.setCell ⟨gs, 0, none⟩ (.int .u64 (wd L 0 : Nat))).setCell ⟨gs, 1, none⟩ (.int .u64 (wd L 1 : Nat))).setCell ⟨gs, 2, none⟩ (.int .u64 (wd L 2 : Nat))).setCell ⟨gs, 3, none⟩ (.int .u64 (wd L 3 : Nat))).setCell ⟨gx, 0, none⟩ (.int .u64 (wd L 0 : Nat))).setCell ⟨gx, 1, none⟩ (.int .u64 (wd L 1 : Nat))).setCell ⟨gx, 2, none⟩ (.int .u64 (wd L 2 : Nat))).setCell ⟨gx, 3, none⟩ (.int .u64 (wd L 3 : Nat))) = W6 at *
 have Na := at_of hW6 (((Fa.out).far4 Das _ _ _ _).far4 Dax _ _ _ _)
 have Nb := at_of hW6 (((Fb.out).far4 Dbs _ _ _ _).far4 Dbx _ _ _ _)
 have Nm := at_of hW6 (((Fm.out).far4 Dms _ _ _ _).far4 Dmx _ _ _ _)
 have Nx := at_of hW6 (((Fx.out).far4 Dxs _ _ _ _).put4 _ _ _ _)
 have Ns := at_of hW6 (((Fs.out).put4 _ _ _ _).far4 Dxs.symm _ _ _ _)
 have NB := gr_of hW6 (((((((((BW.out).setCell Es _).setCell Es _).setCell Es _).setCell Es _).setCell Ex _).setCell Ex _).setCell Ex _).setCell Ex _)
 clear hW6 BW Fa Fb Fm Fx Fs
 have Fa := Lib.hid Na
 have Fb := Lib.hid Nb
 have Fm := Lib.hid Nm
 have Fx := Lib.hid Nx
 have Fs := Lib.hid Ns
 have BW := Lib.hid NB
 clear NB Na Nb Nm Nx Ns
 have Lx := Fx.out.lt
 have cx0 := Fx.out.c0
 have cx1 := Fx.out.c1
 have cx2 := Fx.out.c2
 have cx3 := Fx.out.c3
 refine bodyPost_ret (v := .tuple #[num L, .int .i64 0]) (by simp [results, Try.results37, go_sem, *]) rfl ⟨rfl, BW.out⟩

set_option maxRecDepth 100000 in
set_option maxHeartbeats 8000000 in
theorem radd4_ge (A B M S L c : Nat) (k : Int) (hk : 0 ≤ k)
  (cm : ∀ w, Calls Try.prog 58 #[num A, num B, num M] w fun e w' => e = .returned (.bool true) ∧ Below w.heap.size w w')
  (cs : ∀ w, Calls Try.prog 59 #[num A, num B] w fun e w' => e = .returned (.tuple #[num S, .int .u64 0]) ∧ Below w.heap.size w w')
  (ck : ∀ w, Calls Try.prog 60 #[num S, num M] w fun e w' => e = .returned (.int .i64 k) ∧ Below w.heap.size w w')
  (ct : ∀ w, Calls Try.prog 47 #[num S, num M] w fun e w' => e = .returned (.tuple #[num L, .int .u64 (c : Nat)]) ∧ Below w.heap.size w w')
  (w : World) : Calls Try.prog 37 #[num A, num B, num M] w fun e w' => e = .returned (.tuple #[num L, .int .i64 0]) ∧ Below w.heap.size w w' := by
 have Hcm := Lib.hid cm
 have Hcs := Lib.hid cs
 have Hck := Lib.hid ck
 have Hct := Lib.hid ct
 clear cm cs ck ct
 go_enter Try.func37, Try.ntmps37
 go_wp2_with fail
 have BW := Lib.hid (Below.refl w.heap.size w)
 have Ex : w.heap.size ≤ w.heap.size + 1 + 1 + 1 := by have := BW.out.size; omega
 have Dax : w.heap.size ≠ w.heap.size + 1 + 1 + 1 := by omega
 have Dbx : w.heap.size + 1 ≠ w.heap.size + 1 + 1 + 1 := by omega
 have Dmx : w.heap.size + 1 + 1 ≠ w.heap.size + 1 + 1 + 1 := by omega
 generalize hW1 : ((((w.alloc (.cells #[.int .u64 (wd A 0 : Nat), .int .u64 (wd A 1 : Nat), .int .u64 (wd A 2 : Nat), .int .u64 (wd A 3 : Nat)] 24)).alloc (.cells #[.int .u64 (wd B 0 : Nat), .int .u64 (wd B 1 : Nat), .int .u64 (wd B 2 : Nat), .int .u64 (wd B 3 : Nat)] 24)).alloc (.cells #[.int .u64 (wd M 0 : Nat), .int .u64 (wd M 1 : Nat), .int .u64 (wd M 2 : Nat), .int .u64 (wd M 3 : Nat)] 24)).alloc (.cells #[.int .u64 0, .int .u64 0, .int .u64 0, .int .u64 0] 24)) = W1 at *
 have Na : At W1 (w.heap.size) _ _ := at_of hW1 ((((At.at_ _ _ _ _ (by simp)).alloc _).alloc _).alloc _)
 have Nb : At W1 (w.heap.size + 1) _ _ := at_of hW1 (((At.at_ _ _ _ _ (by simp)).alloc _).alloc _)
 have Nm : At W1 (w.heap.size + 1 + 1) _ _ := at_of hW1 ((At.at_ _ _ _ _ (by simp)).alloc _)
 have Nx : At W1 (w.heap.size + 1 + 1 + 1) _ _ := at_of hW1 (At.at_ _ _ _ _ (by simp))
 have NB := gr_of hW1 (gr_alloc (gr_alloc (gr_alloc (gr_alloc BW.out _) _) _) _)
 clear hW1 BW 
 generalize w.heap.size + 1 + 1 + 1 = gx at *
 generalize w.heap.size + 1 + 1 = gm at *
 generalize w.heap.size + 1 = gb at *
 obtain ⟨ga, hg0⟩ : ∃ g, g = w.heap.size := ⟨_, rfl⟩
 rw [← hg0] at Na ⊢
 rw [← hg0] at Dax
 clear hg0
 have Fa := Lib.hid Na
 have Fb := Lib.hid Nb
 have Fm := Lib.hid Nm
 have Fx := Lib.hid Nx
 have BW := Lib.hid NB
 clear NB Na Nb Nm Nx
 refine (Hcm.out _).mono ?_
 rintro e v2 ⟨rfl, z2⟩
 have Na := Lib.hid (Fa.out.on z2)
 have Nb := Lib.hid (Fb.out.on z2)
 have Nm := Lib.hid (Fm.out.on z2)
 have Nx := Lib.hid (Fx.out.on z2)
 have NB := Lib.hid (bel_tr BW.out z2)
 clear BW z2 Fa Fb Fm Fx
 have Fa := Na
 have Fb := Nb
 have Fm := Nm
 have Fx := Nx
 have BW := NB
 clear NB Na Nb Nm Nx
 have La := Fa.out.lt
 have ca0 := Fa.out.c0
 have ca1 := Fa.out.c1
 have ca2 := Fa.out.c2
 have ca3 := Fa.out.c3
 have Lb := Fb.out.lt
 have cb0 := Fb.out.c0
 have cb1 := Fb.out.c1
 have cb2 := Fb.out.c2
 have cb3 := Fb.out.c3
 go_wp2_with fail
 clear La ca0 ca1 ca2 ca3 Lb cb0 cb1 cb2 cb3
 refine (Hcs.out _).mono ?_
 rintro e v3 ⟨rfl, z3⟩
 have Na := Lib.hid (Fa.out.on z3)
 have Nb := Lib.hid (Fb.out.on z3)
 have Nm := Lib.hid (Fm.out.on z3)
 have Nx := Lib.hid (Fx.out.on z3)
 have NB := Lib.hid (bel_tr BW.out z3)
 clear BW z3 Fa Fb Fm Fx
 have Fa := Na
 have Fb := Nb
 have Fm := Nm
 have Fx := Nx
 have BW := NB
 clear NB Na Nb Nm Nx
 have Lm := Fm.out.lt
 have cm0 := Fm.out.c0
 have cm1 := Fm.out.c1
 have cm2 := Fm.out.c2
 have cm3 := Fm.out.c3
 go_wp2_with fail
 clear Lm cm0 cm1 cm2 cm3
 have Es : w.heap.size ≤ v3.heap.size := by have := BW.out.size; omega
 have Das : ga ≠ v3.heap.size := by have := Fa.out.lt; omega
 have Dbs : gb ≠ v3.heap.size := by have := Fb.out.lt; omega
 have Dms : gm ≠ v3.heap.size := by have := Fm.out.lt; omega
 have Dxs : gx ≠ v3.heap.size := by have := Fx.out.lt; omega
 generalize hW4 : (v3.alloc (.cells #[.int .u64 (wd S 0 : Nat), .int .u64 (wd S 1 : Nat), .int .u64 (wd S 2 : Nat), .int .u64 (wd S 3 : Nat)] 24)) = W4 at *
 have Ns : At W4 (v3.heap.size) _ _ := at_of hW4 (At.at_ _ _ _ _ (by simp))
 have Na := at_of hW4 (Fa.out.alloc _)
 have Nb := at_of hW4 (Fb.out.alloc _)
 have Nm := at_of hW4 (Fm.out.alloc _)
 have Nx := at_of hW4 (Fx.out.alloc _)
 have NB := gr_of hW4 (gr_alloc BW.out _)
 clear hW4 BW Fa Fb Fm Fx
 generalize v3.heap.size = gs at *
 have Fa := Lib.hid Na
 have Fb := Lib.hid Nb
 have Fm := Lib.hid Nm
 have Fx := Lib.hid Nx
 have Fs := Lib.hid Ns
 have BW := Lib.hid NB
 clear NB Na Nb Nm Nx Ns
 refine (Hck.out _).mono ?_
 rintro e v5 ⟨rfl, z5⟩
 have Na := Lib.hid (Fa.out.on z5)
 have Nb := Lib.hid (Fb.out.on z5)
 have Nm := Lib.hid (Fm.out.on z5)
 have Nx := Lib.hid (Fx.out.on z5)
 have Ns := Lib.hid (Fs.out.on z5)
 have NB := Lib.hid (bel_tr BW.out z5)
 clear BW z5 Fa Fb Fm Fx Fs
 have Fa := Na
 have Fb := Nb
 have Fm := Nm
 have Fx := Nx
 have Fs := Ns
 have BW := NB
 clear NB Na Nb Nm Nx Ns
 have Ls := Fs.out.lt
 have cs0 := Fs.out.c0
 have cs1 := Fs.out.c1
 have cs2 := Fs.out.c2
 have cs3 := Fs.out.c3
 have Lm := Fm.out.lt
 have cm0 := Fm.out.c0
 have cm1 := Fm.out.c1
 have cm2 := Fm.out.c2
 have cm3 := Fm.out.c3
 go_wp2_with fail
 clear Ls cs0 cs1 cs2 cs3 Lm cm0 cm1 cm2 cm3
 refine (Hct.out _).mono ?_
 rintro e v6 ⟨rfl, z6⟩
 have Na := Lib.hid (Fa.out.on z6)
 have Nb := Lib.hid (Fb.out.on z6)
 have Nm := Lib.hid (Fm.out.on z6)
 have Nx := Lib.hid (Fx.out.on z6)
 have Ns := Lib.hid (Fs.out.on z6)
 have NB := Lib.hid (bel_tr BW.out z6)
 clear BW z6 Fa Fb Fm Fx Fs
 have Fa := Na
 have Fb := Nb
 have Fm := Nm
 have Fx := Nx
 have Fs := Ns
 have BW := NB
 clear NB Na Nb Nm Nx Ns
 have Ls := Fs.out.lt
 have cs0 := Fs.out.c0
 have cs1 := Fs.out.c1
 have cs2 := Fs.out.c2
 have cs3 := Fs.out.c3
 have fs0 : v6.frozen? ⟨gs, 0, none⟩ = false := Fs.out.frozen 0
 have fs1 : v6.frozen? ⟨gs, 1, none⟩ = false := Fs.out.frozen 1
 have fs2 : v6.frozen? ⟨gs, 2, none⟩ = false := Fs.out.frozen 2
 have fs3 : v6.frozen? ⟨gs, 3, none⟩ = false := Fs.out.frozen 3
 have Lx := Fx.out.lt
 have cx0 := Fx.out.c0
 have cx1 := Fx.out.c1
 have cx2 := Fx.out.c2
 have cx3 := Fx.out.c3
 have fx0 : v6.frozen? ⟨gx, 0, none⟩ = false := Fx.out.frozen 0
 have fx1 : v6.frozen? ⟨gx, 1, none⟩ = false := Fx.out.frozen 1
 have fx2 : v6.frozen? ⟨gx, 2, none⟩ = false := Fx.out.frozen 2
 have fx3 : v6.frozen? ⟨gx, 3, none⟩ = false := Fx.out.frozen 3
 go_wp2_with fail
 clear Ls cs0 cs1 cs2 cs3 fs0 fs1 fs2 fs3 Lx cx0 cx1 cx2 cx3 fx0 fx1 fx2 fx3
 generalize hW7 : ((((((((v6.setCell ⟨gs, 0, none⟩ (.int .u64 (wd L 0 : Nat))).setCell ⟨gs, 1, none⟩ (.int .u64 (wd L 1 : Nat))).setCell ⟨gs, 2, none⟩ (.int .u64 (wd L 2 : Nat))).setCell ⟨gs, 3, none⟩ (.int .u64 (wd L 3 : Nat))).setCell ⟨gx, 0, none⟩ (.int .u64 (wd L 0 : Nat))).setCell ⟨gx, 1, none⟩ (.int .u64 (wd L 1 : Nat))).setCell ⟨gx, 2, none⟩ (.int .u64 (wd L 2 : Nat))).setCell ⟨gx, 3, none⟩ (.int .u64 (wd L 3 : Nat))) = W7 at *
 have Na := at_of hW7 (((Fa.out).far4 Das _ _ _ _).far4 Dax _ _ _ _)
 have Nb := at_of hW7 (((Fb.out).far4 Dbs _ _ _ _).far4 Dbx _ _ _ _)
 have Nm := at_of hW7 (((Fm.out).far4 Dms _ _ _ _).far4 Dmx _ _ _ _)
 have Nx := at_of hW7 (((Fx.out).far4 Dxs _ _ _ _).put4 _ _ _ _)
 have Ns := at_of hW7 (((Fs.out).put4 _ _ _ _).far4 Dxs.symm _ _ _ _)
 have NB := gr_of hW7 (((((((((BW.out).setCell Es _).setCell Es _).setCell Es _).setCell Es _).setCell Ex _).setCell Ex _).setCell Ex _).setCell Ex _)
 clear hW7 BW Fa Fb Fm Fx Fs
 have Fa := Lib.hid Na
 have Fb := Lib.hid Nb
 have Fm := Lib.hid Nm
 have Fx := Lib.hid Nx
 have Fs := Lib.hid Ns
 have BW := Lib.hid NB
 clear NB Na Nb Nm Nx Ns
 have Lx := Fx.out.lt
 have cx0 := Fx.out.c0
 have cx1 := Fx.out.c1
 have cx2 := Fx.out.c2
 have cx3 := Fx.out.c3
 refine bodyPost_ret (v := .tuple #[num L, .int .i64 0]) (by simp [results, Try.results37, go_sem, *]) rfl ⟨rfl, BW.out⟩

set_option maxRecDepth 100000 in
set_option maxHeartbeats 8000000 in
theorem radd4_lt (A B M S : Nat) (k : Int) (hk : k < 0)
  (cm : ∀ w, Calls Try.prog 58 #[num A, num B, num M] w fun e w' => e = .returned (.bool true) ∧ Below w.heap.size w w')
  (cs : ∀ w, Calls Try.prog 59 #[num A, num B] w fun e w' => e = .returned (.tuple #[num S, .int .u64 0]) ∧ Below w.heap.size w w')
  (ck : ∀ w, Calls Try.prog 60 #[num S, num M] w fun e w' => e = .returned (.int .i64 k) ∧ Below w.heap.size w w')
  (w : World) : Calls Try.prog 37 #[num A, num B, num M] w fun e w' => e = .returned (.tuple #[num S, .int .i64 0]) ∧ Below w.heap.size w w' := by
 have Hcm := Lib.hid cm
 have Hcs := Lib.hid cs
 have Hck := Lib.hid ck
 clear cm cs ck
 go_enter Try.func37, Try.ntmps37
 go_wp2_with fail
 have BW := Lib.hid (Below.refl w.heap.size w)
 have Ex : w.heap.size ≤ w.heap.size + 1 + 1 + 1 := by have := BW.out.size; omega
 have Dax : w.heap.size ≠ w.heap.size + 1 + 1 + 1 := by omega
 have Dbx : w.heap.size + 1 ≠ w.heap.size + 1 + 1 + 1 := by omega
 have Dmx : w.heap.size + 1 + 1 ≠ w.heap.size + 1 + 1 + 1 := by omega
 generalize hW1 : ((((w.alloc (.cells #[.int .u64 (wd A 0 : Nat), .int .u64 (wd A 1 : Nat), .int .u64 (wd A 2 : Nat), .int .u64 (wd A 3 : Nat)] 24)).alloc (.cells #[.int .u64 (wd B 0 : Nat), .int .u64 (wd B 1 : Nat), .int .u64 (wd B 2 : Nat), .int .u64 (wd B 3 : Nat)] 24)).alloc (.cells #[.int .u64 (wd M 0 : Nat), .int .u64 (wd M 1 : Nat), .int .u64 (wd M 2 : Nat), .int .u64 (wd M 3 : Nat)] 24)).alloc (.cells #[.int .u64 0, .int .u64 0, .int .u64 0, .int .u64 0] 24)) = W1 at *
 have Na : At W1 (w.heap.size) _ _ := at_of hW1 ((((At.at_ _ _ _ _ (by simp)).alloc _).alloc _).alloc _)
 have Nb : At W1 (w.heap.size + 1) _ _ := at_of hW1 (((At.at_ _ _ _ _ (by simp)).alloc _).alloc _)
 have Nm : At W1 (w.heap.size + 1 + 1) _ _ := at_of hW1 ((At.at_ _ _ _ _ (by simp)).alloc _)
 have Nx : At W1 (w.heap.size + 1 + 1 + 1) _ _ := at_of hW1 (At.at_ _ _ _ _ (by simp))
 have NB := gr_of hW1 (gr_alloc (gr_alloc (gr_alloc (gr_alloc BW.out _) _) _) _)
 clear hW1 BW 
 generalize w.heap.size + 1 + 1 + 1 = gx at *
 generalize w.heap.size + 1 + 1 = gm at *
 generalize w.heap.size + 1 = gb at *
 obtain ⟨ga, hg0⟩ : ∃ g, g = w.heap.size := ⟨_, rfl⟩
 rw [← hg0] at Na ⊢
 rw [← hg0] at Dax
 clear hg0
 have Fa := Lib.hid Na
 have Fb := Lib.hid Nb
 have Fm := Lib.hid Nm
 have Fx := Lib.hid Nx
 have BW := Lib.hid NB
 clear NB Na Nb Nm Nx
 refine (Hcm.out _).mono ?_
 rintro e v2 ⟨rfl, z2⟩
 have Na := Lib.hid (Fa.out.on z2)
 have Nb := Lib.hid (Fb.out.on z2)
 have Nm := Lib.hid (Fm.out.on z2)
 have Nx := Lib.hid (Fx.out.on z2)
 have NB := Lib.hid (bel_tr BW.out z2)
 clear BW z2 Fa Fb Fm Fx
 have Fa := Na
 have Fb := Nb
 have Fm := Nm
 have Fx := Nx
 have BW := NB
 clear NB Na Nb Nm Nx
 have La := Fa.out.lt
 have ca0 := Fa.out.c0
 have ca1 := Fa.out.c1
 have ca2 := Fa.out.c2
 have ca3 := Fa.out.c3
 have Lb := Fb.out.lt
 have cb0 := Fb.out.c0
 have cb1 := Fb.out.c1
 have cb2 := Fb.out.c2
 have cb3 := Fb.out.c3
 go_wp2_with fail
 clear La ca0 ca1 ca2 ca3 Lb cb0 cb1 cb2 cb3
 refine (Hcs.out _).mono ?_
 rintro e v3 ⟨rfl, z3⟩
 have Na := Lib.hid (Fa.out.on z3)
 have Nb := Lib.hid (Fb.out.on z3)
 have Nm := Lib.hid (Fm.out.on z3)
 have Nx := Lib.hid (Fx.out.on z3)
 have NB := Lib.hid (bel_tr BW.out z3)
 clear BW z3 Fa Fb Fm Fx
 have Fa := Na
 have Fb := Nb
 have Fm := Nm
 have Fx := Nx
 have BW := NB
 clear NB Na Nb Nm Nx
 have Lm := Fm.out.lt
 have cm0 := Fm.out.c0
 have cm1 := Fm.out.c1
 have cm2 := Fm.out.c2
 have cm3 := Fm.out.c3
 go_wp2_with fail
 clear Lm cm0 cm1 cm2 cm3
 have Es : w.heap.size ≤ v3.heap.size := by have := BW.out.size; omega
 have Das : ga ≠ v3.heap.size := by have := Fa.out.lt; omega
 have Dbs : gb ≠ v3.heap.size := by have := Fb.out.lt; omega
 have Dms : gm ≠ v3.heap.size := by have := Fm.out.lt; omega
 have Dxs : gx ≠ v3.heap.size := by have := Fx.out.lt; omega
 generalize hW4 : (v3.alloc (.cells #[.int .u64 (wd S 0 : Nat), .int .u64 (wd S 1 : Nat), .int .u64 (wd S 2 : Nat), .int .u64 (wd S 3 : Nat)] 24)) = W4 at *
 have Ns : At W4 (v3.heap.size) _ _ := at_of hW4 (At.at_ _ _ _ _ (by simp))
 have Na := at_of hW4 (Fa.out.alloc _)
 have Nb := at_of hW4 (Fb.out.alloc _)
 have Nm := at_of hW4 (Fm.out.alloc _)
 have Nx := at_of hW4 (Fx.out.alloc _)
 have NB := gr_of hW4 (gr_alloc BW.out _)
 clear hW4 BW Fa Fb Fm Fx
 generalize v3.heap.size = gs at *
 have Fa := Lib.hid Na
 have Fb := Lib.hid Nb
 have Fm := Lib.hid Nm
 have Fx := Lib.hid Nx
 have Fs := Lib.hid Ns
 have BW := Lib.hid NB
 clear NB Na Nb Nm Nx Ns
 refine (Hck.out _).mono ?_
 rintro e v5 ⟨rfl, z5⟩
 have Na := Lib.hid (Fa.out.on z5)
 have Nb := Lib.hid (Fb.out.on z5)
 have Nm := Lib.hid (Fm.out.on z5)
 have Nx := Lib.hid (Fx.out.on z5)
 have Ns := Lib.hid (Fs.out.on z5)
 have NB := Lib.hid (bel_tr BW.out z5)
 clear BW z5 Fa Fb Fm Fx Fs
 have Fa := Na
 have Fb := Nb
 have Fm := Nm
 have Fx := Nx
 have Fs := Ns
 have BW := NB
 clear NB Na Nb Nm Nx Ns
 have Ls := Fs.out.lt
 have cs0 := Fs.out.c0
 have cs1 := Fs.out.c1
 have cs2 := Fs.out.c2
 have cs3 := Fs.out.c3
 have Lm := Fm.out.lt
 have cm0 := Fm.out.c0
 have cm1 := Fm.out.c1
 have cm2 := Fm.out.c2
 have cm3 := Fm.out.c3
 have hk2 : ¬ 0 ≤ k := by omega
 have Lx := Fx.out.lt
 have cx0 := Fx.out.c0
 have cx1 := Fx.out.c1
 have cx2 := Fx.out.c2
 have cx3 := Fx.out.c3
 have fx0 : v5.frozen? ⟨gx, 0, none⟩ = false := Fx.out.frozen 0
 have fx1 : v5.frozen? ⟨gx, 1, none⟩ = false := Fx.out.frozen 1
 have fx2 : v5.frozen? ⟨gx, 2, none⟩ = false := Fx.out.frozen 2
 have fx3 : v5.frozen? ⟨gx, 3, none⟩ = false := Fx.out.frozen 3
 go_wp2_with fail
 clear Ls cs0 cs1 cs2 cs3 Lm cm0 cm1 cm2 cm3 Lx cx0 cx1 cx2 cx3 fx0 fx1 fx2 fx3
 generalize hW6 : ((((v5.setCell ⟨gx, 0, none⟩ (.int .u64 (wd S 0 : Nat))).setCell ⟨gx, 1, none⟩ (.int .u64 (wd S 1 : Nat))).setCell ⟨gx, 2, none⟩ (.int .u64 (wd S 2 : Nat))).setCell ⟨gx, 3, none⟩ (.int .u64 (wd S 3 : Nat))) = W6 at *
 have Na := at_of hW6 ((Fa.out).far4 Dax _ _ _ _)
 have Nb := at_of hW6 ((Fb.out).far4 Dbx _ _ _ _)
 have Nm := at_of hW6 ((Fm.out).far4 Dmx _ _ _ _)
 have Nx := at_of hW6 ((Fx.out).put4 _ _ _ _)
 have Ns := at_of hW6 ((Fs.out).far4 Dxs.symm _ _ _ _)
 have NB := gr_of hW6 (((((BW.out).setCell Ex _).setCell Ex _).setCell Ex _).setCell Ex _)
 clear hW6 BW Fa Fb Fm Fx Fs
 have Fa := Lib.hid Na
 have Fb := Lib.hid Nb
 have Fm := Lib.hid Nm
 have Fx := Lib.hid Nx
 have Fs := Lib.hid Ns
 have BW := Lib.hid NB
 clear NB Na Nb Nm Nx Ns
 have Lx := Fx.out.lt
 have cx0 := Fx.out.c0
 have cx1 := Fx.out.c1
 have cx2 := Fx.out.c2
 have cx3 := Fx.out.c3
 refine bodyPost_ret (v := .tuple #[num S, .int .i64 0]) (by simp [results, Try.results37, go_sem, *]) rfl ⟨rfl, BW.out⟩

set_option maxRecDepth 100000 in
set_option maxHeartbeats 8000000 in
theorem times4_w (A B M hi lo q r : Nat)
  (cw : ∀ w, Calls Try.prog 65 #[num M] w fun e w' => e = .returned (.bool true) ∧ Below w.heap.size w w')
  (cx : ∀ w, Calls Try.prog 77 #[.int .u64 (wd A 0 : Nat), .int .u64 (wd B 0 : Nat)] w fun e w' => e = .returned (.tuple #[.int .u64 (hi : Nat), .int .u64 (lo : Nat)]) ∧ Below w.heap.size w w')
  (cd : ∀ w, Calls Try.prog 78 #[.int .u64 (hi : Nat), .int .u64 (lo : Nat), .int .u64 (wd M 0 : Nat)] w fun e w' => e = .returned (.tuple #[.int .u64 (q : Nat), .int .u64 (r : Nat)]) ∧ Below w.heap.size w w')
  (co : ∀ w, Calls Try.prog 46 #[.int .u64 (r : Nat)] w fun e w' => e = .returned (num r) ∧ Below w.heap.size w w')
  (w : World) : Calls Try.prog 61 #[num A, num B, num M] w fun e w' => e = .returned (num r) ∧ Below w.heap.size w w' := by
 have Hcw := Lib.hid cw
 have Hcx := Lib.hid cx
 have Hcd := Lib.hid cd
 have Hco := Lib.hid co
 clear cw cx cd co
 go_enter Try.func61, Try.ntmps61
 go_wp2_with fail
 have BW := Lib.hid (Below.refl w.heap.size w)
 have Ex : w.heap.size ≤ w.heap.size + 1 + 1 + 1 := by have := BW.out.size; omega
 have Dax : w.heap.size ≠ w.heap.size + 1 + 1 + 1 := by omega
 have Dbx : w.heap.size + 1 ≠ w.heap.size + 1 + 1 + 1 := by omega
 have Dmx : w.heap.size + 1 + 1 ≠ w.heap.size + 1 + 1 + 1 := by omega
 generalize hW1 : ((((w.alloc (.cells #[.int .u64 (wd A 0 : Nat), .int .u64 (wd A 1 : Nat), .int .u64 (wd A 2 : Nat), .int .u64 (wd A 3 : Nat)] 24)).alloc (.cells #[.int .u64 (wd B 0 : Nat), .int .u64 (wd B 1 : Nat), .int .u64 (wd B 2 : Nat), .int .u64 (wd B 3 : Nat)] 24)).alloc (.cells #[.int .u64 (wd M 0 : Nat), .int .u64 (wd M 1 : Nat), .int .u64 (wd M 2 : Nat), .int .u64 (wd M 3 : Nat)] 24)).alloc (.cells #[.int .u64 0, .int .u64 0, .int .u64 0, .int .u64 0] 24)) = W1 at *
 have Na : At W1 (w.heap.size) _ _ := at_of hW1 ((((At.at_ _ _ _ _ (by simp)).alloc _).alloc _).alloc _)
 have Nb : At W1 (w.heap.size + 1) _ _ := at_of hW1 (((At.at_ _ _ _ _ (by simp)).alloc _).alloc _)
 have Nm : At W1 (w.heap.size + 1 + 1) _ _ := at_of hW1 ((At.at_ _ _ _ _ (by simp)).alloc _)
 have Nx : At W1 (w.heap.size + 1 + 1 + 1) _ _ := at_of hW1 (At.at_ _ _ _ _ (by simp))
 have NB := gr_of hW1 (gr_alloc (gr_alloc (gr_alloc (gr_alloc BW.out _) _) _) _)
 clear hW1 BW 
 generalize w.heap.size + 1 + 1 + 1 = gx at *
 generalize w.heap.size + 1 + 1 = gm at *
 generalize w.heap.size + 1 = gb at *
 obtain ⟨ga, hg0⟩ : ∃ g, g = w.heap.size := ⟨_, rfl⟩
 rw [← hg0] at Na ⊢
 rw [← hg0] at Dax
 clear hg0
 have Fa := Lib.hid Na
 have Fb := Lib.hid Nb
 have Fm := Lib.hid Nm
 have Fx := Lib.hid Nx
 have BW := Lib.hid NB
 clear NB Na Nb Nm Nx
 refine (Hcw.out _).mono ?_
 rintro e v2 ⟨rfl, z2⟩
 have Na := Lib.hid (Fa.out.on z2)
 have Nb := Lib.hid (Fb.out.on z2)
 have Nm := Lib.hid (Fm.out.on z2)
 have Nx := Lib.hid (Fx.out.on z2)
 have NB := Lib.hid (bel_tr BW.out z2)
 clear BW z2 Fa Fb Fm Fx
 have Fa := Na
 have Fb := Nb
 have Fm := Nm
 have Fx := Nx
 have BW := NB
 clear NB Na Nb Nm Nx
 have La := Fa.out.lt
 have ca0 := Fa.out.c0
 have ca1 := Fa.out.c1
 have ca2 := Fa.out.c2
 have ca3 := Fa.out.c3
 have Lb := Fb.out.lt
 have cb0 := Fb.out.c0
 have cb1 := Fb.out.c1
 have cb2 := Fb.out.c2
 have cb3 := Fb.out.c3
 go_wp2_with fail
 clear La ca0 ca1 ca2 ca3 Lb cb0 cb1 cb2 cb3
 refine (Hcx.out _).mono ?_
 rintro e v3 ⟨rfl, z3⟩
 have Na := Lib.hid (Fa.out.on z3)
 have Nb := Lib.hid (Fb.out.on z3)
 have Nm := Lib.hid (Fm.out.on z3)
 have Nx := Lib.hid (Fx.out.on z3)
 have NB := Lib.hid (bel_tr BW.out z3)
 clear BW z3 Fa Fb Fm Fx
 have Fa := Na
 have Fb := Nb
 have Fm := Nm
 have Fx := Nx
 have BW := NB
 clear NB Na Nb Nm Nx
 have Lm := Fm.out.lt
 have cm0 := Fm.out.c0
 have cm1 := Fm.out.c1
 have cm2 := Fm.out.c2
 have cm3 := Fm.out.c3
 go_wp2_with fail
 clear Lm cm0 cm1 cm2 cm3
 refine (Hcd.out _).mono ?_
 rintro e v4 ⟨rfl, z4⟩
 have Na := Lib.hid (Fa.out.on z4)
 have Nb := Lib.hid (Fb.out.on z4)
 have Nm := Lib.hid (Fm.out.on z4)
 have Nx := Lib.hid (Fx.out.on z4)
 have NB := Lib.hid (bel_tr BW.out z4)
 clear BW z4 Fa Fb Fm Fx
 have Fa := Na
 have Fb := Nb
 have Fm := Nm
 have Fx := Nx
 have BW := NB
 clear NB Na Nb Nm Nx
 go_wp2_with fail
 refine (Hco.out _).mono ?_
 rintro e v5 ⟨rfl, z5⟩
 have Na := Lib.hid (Fa.out.on z5)
 have Nb := Lib.hid (Fb.out.on z5)
 have Nm := Lib.hid (Fm.out.on z5)
 have Nx := Lib.hid (Fx.out.on z5)
 have NB := Lib.hid (bel_tr BW.out z5)
 clear BW z5 Fa Fb Fm Fx
 have Fa := Na
 have Fb := Nb
 have Fm := Nm
 have Fx := Nx
 have BW := NB
 clear NB Na Nb Nm Nx
 have Lx := Fx.out.lt
 have cx0 := Fx.out.c0
 have cx1 := Fx.out.c1
 have cx2 := Fx.out.c2
 have cx3 := Fx.out.c3
 have fx0 : v5.frozen? ⟨gx, 0, none⟩ = false := Fx.out.frozen 0
 have fx1 : v5.frozen? ⟨gx, 1, none⟩ = false := Fx.out.frozen 1
 have fx2 : v5.frozen? ⟨gx, 2, none⟩ = false := Fx.out.frozen 2
 have fx3 : v5.frozen? ⟨gx, 3, none⟩ = false := Fx.out.frozen 3
 go_wp2_with fail
 clear Lx cx0 cx1 cx2 cx3 fx0 fx1 fx2 fx3
 generalize hW6 : ((((v5.setCell ⟨gx, 0, none⟩ (.int .u64 (wd r 0 : Nat))).setCell ⟨gx, 1, none⟩ (.int .u64 (wd r 1 : Nat))).setCell ⟨gx, 2, none⟩ (.int .u64 (wd r 2 : Nat))).setCell ⟨gx, 3, none⟩ (.int .u64 (wd r 3 : Nat))) = W6 at *
 have Na := at_of hW6 ((Fa.out).far4 Dax _ _ _ _)
 have Nb := at_of hW6 ((Fb.out).far4 Dbx _ _ _ _)
 have Nm := at_of hW6 ((Fm.out).far4 Dmx _ _ _ _)
 have Nx := at_of hW6 ((Fx.out).put4 _ _ _ _)
 have NB := gr_of hW6 (((((BW.out).setCell Ex _).setCell Ex _).setCell Ex _).setCell Ex _)
 clear hW6 BW Fa Fb Fm Fx
 have Fa := Lib.hid Na
 have Fb := Lib.hid Nb
 have Fm := Lib.hid Nm
 have Fx := Lib.hid Nx
 have BW := Lib.hid NB
 clear NB Na Nb Nm Nx
 have Lx := Fx.out.lt
 have cx0 := Fx.out.c0
 have cx1 := Fx.out.c1
 have cx2 := Fx.out.c2
 have cx3 := Fx.out.c3
 refine bodyPost_ret (v := num r) (by simp [results, Try.results61, go_sem, *]) rfl ⟨rfl, BW.out⟩

set_option maxRecDepth 100000 in
set_option maxHeartbeats 8000000 in
theorem times4_l (A B M L H r : Nat)
  (cw : ∀ w, Calls Try.prog 65 #[num M] w fun e w' => e = .returned (.bool false) ∧ Below w.heap.size w w')
  (cx : ∀ w, Calls Try.prog 79 #[num A, num B] w fun e w' => e = .returned (.tuple #[num L, num H]) ∧ Below w.heap.size w w')
  (cd : ∀ w, Calls Try.prog 80 #[num L, num H, num M] w fun e w' => e = .returned (.tuple #[num r, .int .i64 0]) ∧ Below w.heap.size w w')
  (w : World) : Calls Try.prog 61 #[num A, num B, num M] w fun e w' => e = .returned (num r) ∧ Below w.heap.size w w' := by
 have Hcw := Lib.hid cw
 have Hcx := Lib.hid cx
 have Hcd := Lib.hid cd
 clear cw cx cd
 go_enter Try.func61, Try.ntmps61
 go_wp2_with fail
 have BW := Lib.hid (Below.refl w.heap.size w)
 have Ex : w.heap.size ≤ w.heap.size + 1 + 1 + 1 := by have := BW.out.size; omega
 have Dax : w.heap.size ≠ w.heap.size + 1 + 1 + 1 := by omega
 have Dbx : w.heap.size + 1 ≠ w.heap.size + 1 + 1 + 1 := by omega
 have Dmx : w.heap.size + 1 + 1 ≠ w.heap.size + 1 + 1 + 1 := by omega
 generalize hW1 : ((((w.alloc (.cells #[.int .u64 (wd A 0 : Nat), .int .u64 (wd A 1 : Nat), .int .u64 (wd A 2 : Nat), .int .u64 (wd A 3 : Nat)] 24)).alloc (.cells #[.int .u64 (wd B 0 : Nat), .int .u64 (wd B 1 : Nat), .int .u64 (wd B 2 : Nat), .int .u64 (wd B 3 : Nat)] 24)).alloc (.cells #[.int .u64 (wd M 0 : Nat), .int .u64 (wd M 1 : Nat), .int .u64 (wd M 2 : Nat), .int .u64 (wd M 3 : Nat)] 24)).alloc (.cells #[.int .u64 0, .int .u64 0, .int .u64 0, .int .u64 0] 24)) = W1 at *
 have Na : At W1 (w.heap.size) _ _ := at_of hW1 ((((At.at_ _ _ _ _ (by simp)).alloc _).alloc _).alloc _)
 have Nb : At W1 (w.heap.size + 1) _ _ := at_of hW1 (((At.at_ _ _ _ _ (by simp)).alloc _).alloc _)
 have Nm : At W1 (w.heap.size + 1 + 1) _ _ := at_of hW1 ((At.at_ _ _ _ _ (by simp)).alloc _)
 have Nx : At W1 (w.heap.size + 1 + 1 + 1) _ _ := at_of hW1 (At.at_ _ _ _ _ (by simp))
 have NB := gr_of hW1 (gr_alloc (gr_alloc (gr_alloc (gr_alloc BW.out _) _) _) _)
 clear hW1 BW 
 generalize w.heap.size + 1 + 1 + 1 = gx at *
 generalize w.heap.size + 1 + 1 = gm at *
 generalize w.heap.size + 1 = gb at *
 obtain ⟨ga, hg0⟩ : ∃ g, g = w.heap.size := ⟨_, rfl⟩
 rw [← hg0] at Na ⊢
 rw [← hg0] at Dax
 clear hg0
 have Fa := Lib.hid Na
 have Fb := Lib.hid Nb
 have Fm := Lib.hid Nm
 have Fx := Lib.hid Nx
 have BW := Lib.hid NB
 clear NB Na Nb Nm Nx
 refine (Hcw.out _).mono ?_
 rintro e v2 ⟨rfl, z2⟩
 have Na := Lib.hid (Fa.out.on z2)
 have Nb := Lib.hid (Fb.out.on z2)
 have Nm := Lib.hid (Fm.out.on z2)
 have Nx := Lib.hid (Fx.out.on z2)
 have NB := Lib.hid (bel_tr BW.out z2)
 clear BW z2 Fa Fb Fm Fx
 have Fa := Na
 have Fb := Nb
 have Fm := Nm
 have Fx := Nx
 have BW := NB
 clear NB Na Nb Nm Nx
 have La := Fa.out.lt
 have ca0 := Fa.out.c0
 have ca1 := Fa.out.c1
 have ca2 := Fa.out.c2
 have ca3 := Fa.out.c3
 have Lb := Fb.out.lt
 have cb0 := Fb.out.c0
 have cb1 := Fb.out.c1
 have cb2 := Fb.out.c2
 have cb3 := Fb.out.c3
 go_wp2_with fail
 clear La ca0 ca1 ca2 ca3 Lb cb0 cb1 cb2 cb3
 refine (Hcx.out _).mono ?_
 rintro e v3 ⟨rfl, z3⟩
 have Na := Lib.hid (Fa.out.on z3)
 have Nb := Lib.hid (Fb.out.on z3)
 have Nm := Lib.hid (Fm.out.on z3)
 have Nx := Lib.hid (Fx.out.on z3)
 have NB := Lib.hid (bel_tr BW.out z3)
 clear BW z3 Fa Fb Fm Fx
 have Fa := Na
 have Fb := Nb
 have Fm := Nm
 have Fx := Nx
 have BW := NB
 clear NB Na Nb Nm Nx
 have Lm := Fm.out.lt
 have cm0 := Fm.out.c0
 have cm1 := Fm.out.c1
 have cm2 := Fm.out.c2
 have cm3 := Fm.out.c3
 go_wp2_with fail
 clear Lm cm0 cm1 cm2 cm3
 have Dxl : gx ≠ v3.heap.size := by have := Fx.out.lt; omega
 have Dxh : gx ≠ v3.heap.size + 1 := by have := Fx.out.lt; omega
 generalize hW4 : ((v3.alloc (.cells #[.int .u64 (wd L 0 : Nat), .int .u64 (wd L 1 : Nat), .int .u64 (wd L 2 : Nat), .int .u64 (wd L 3 : Nat)] 24)).alloc (.cells #[.int .u64 (wd H 0 : Nat), .int .u64 (wd H 1 : Nat), .int .u64 (wd H 2 : Nat), .int .u64 (wd H 3 : Nat)] 24)) = W4 at *
 have Nl : At W4 (v3.heap.size) _ _ := at_of hW4 ((At.at_ _ _ _ _ (by simp)).alloc _)
 have Nh : At W4 (v3.heap.size + 1) _ _ := at_of hW4 (At.at_ _ _ _ _ (by simp))
 have Na := at_of hW4 ((Fa.out.alloc _).alloc _)
 have Nb := at_of hW4 ((Fb.out.alloc _).alloc _)
 have Nm := at_of hW4 ((Fm.out.alloc _).alloc _)
 have Nx := at_of hW4 ((Fx.out.alloc _).alloc _)
 have NB := gr_of hW4 (gr_alloc (gr_alloc BW.out _) _)
 clear hW4 BW Fa Fb Fm Fx
 generalize v3.heap.size + 1 = gh at *
 generalize v3.heap.size = gl at *
 have Fa := Lib.hid Na
 have Fb := Lib.hid Nb
 have Fm := Lib.hid Nm
 have Fx := Lib.hid Nx
 have Fl := Lib.hid Nl
 have Fh := Lib.hid Nh
 have BW := Lib.hid NB
 clear NB Na Nb Nm Nx Nl Nh
 refine (Hcd.out _).mono ?_
 rintro e v5 ⟨rfl, z5⟩
 have Na := Lib.hid (Fa.out.on z5)
 have Nb := Lib.hid (Fb.out.on z5)
 have Nm := Lib.hid (Fm.out.on z5)
 have Nx := Lib.hid (Fx.out.on z5)
 have Nl := Lib.hid (Fl.out.on z5)
 have Nh := Lib.hid (Fh.out.on z5)
 have NB := Lib.hid (bel_tr BW.out z5)
 clear BW z5 Fa Fb Fm Fx Fl Fh
 have Fa := Na
 have Fb := Nb
 have Fm := Nm
 have Fx := Nx
 have Fl := Nl
 have Fh := Nh
 have BW := NB
 clear NB Na Nb Nm Nx Nl Nh
 have Lx := Fx.out.lt
 have cx0 := Fx.out.c0
 have cx1 := Fx.out.c1
 have cx2 := Fx.out.c2
 have cx3 := Fx.out.c3
 have fx0 : v5.frozen? ⟨gx, 0, none⟩ = false := Fx.out.frozen 0
 have fx1 : v5.frozen? ⟨gx, 1, none⟩ = false := Fx.out.frozen 1
 have fx2 : v5.frozen? ⟨gx, 2, none⟩ = false := Fx.out.frozen 2
 have fx3 : v5.frozen? ⟨gx, 3, none⟩ = false := Fx.out.frozen 3
 go_wp2_with fail
 clear Lx cx0 cx1 cx2 cx3 fx0 fx1 fx2 fx3
 generalize hW6 : ((((v5.setCell ⟨gx, 0, none⟩ (.int .u64 (wd r 0 : Nat))).setCell ⟨gx, 1, none⟩ (.int .u64 (wd r 1 : Nat))).setCell ⟨gx, 2, none⟩ (.int .u64 (wd r 2 : Nat))).setCell ⟨gx, 3, none⟩ (.int .u64 (wd r 3 : Nat))) = W6 at *
 have Na := at_of hW6 ((Fa.out).far4 Dax _ _ _ _)
 have Nb := at_of hW6 ((Fb.out).far4 Dbx _ _ _ _)
 have Nm := at_of hW6 ((Fm.out).far4 Dmx _ _ _ _)
 have Nx := at_of hW6 ((Fx.out).put4 _ _ _ _)
 have Nl := at_of hW6 ((Fl.out).far4 Dxl.symm _ _ _ _)
 have Nh := at_of hW6 ((Fh.out).far4 Dxh.symm _ _ _ _)
 have NB := gr_of hW6 (((((BW.out).setCell Ex _).setCell Ex _).setCell Ex _).setCell Ex _)
 clear hW6 BW Fa Fb Fm Fx Fl Fh
 have Fa := Lib.hid Na
 have Fb := Lib.hid Nb
 have Fm := Lib.hid Nm
 have Fx := Lib.hid Nx
 have Fl := Lib.hid Nl
 have Fh := Lib.hid Nh
 have BW := Lib.hid NB
 clear NB Na Nb Nm Nx Nl Nh
 have Dxy : gx ≠ W6.heap.size := by have := Fx.out.lt; omega
 generalize hW7 : (W6.alloc (.cells #[.int .u64 (wd r 0 : Nat), .int .u64 (wd r 1 : Nat), .int .u64 (wd r 2 : Nat), .int .u64 (wd r 3 : Nat)] 24)) = W7 at *
 have Ny : At W7 (W6.heap.size) _ _ := at_of hW7 (At.at_ _ _ _ _ (by simp))
 have Na := at_of hW7 (Fa.out.alloc _)
 have Nb := at_of hW7 (Fb.out.alloc _)
 have Nm := at_of hW7 (Fm.out.alloc _)
 have Nx := at_of hW7 (Fx.out.alloc _)
 have Nl := at_of hW7 (Fl.out.alloc _)
 have Nh := at_of hW7 (Fh.out.alloc _)
 have NB := gr_of hW7 (gr_alloc BW.out _)
 clear hW7 BW Fa Fb Fm Fx Fl Fh
 generalize W6.heap.size = gy at *
 have Fa := Lib.hid Na
 have Fb := Lib.hid Nb
 have Fm := Lib.hid Nm
 have Fx := Lib.hid Nx
 have Fl := Lib.hid Nl
 have Fh := Lib.hid Nh
 have Fy := Lib.hid Ny
 have BW := Lib.hid NB
 clear NB Na Nb Nm Nx Nl Nh Ny
 have Lx := Fx.out.lt
 have cx0 := Fx.out.c0
 have cx1 := Fx.out.c1
 have cx2 := Fx.out.c2
 have cx3 := Fx.out.c3
 refine bodyPost_ret (v := num r) (by simp [results, Try.results61, go_sem, *]) rfl ⟨rfl, BW.out⟩

set_option maxRecDepth 100000 in
set_option maxHeartbeats 8000000 in
theorem rmul4_y (A B M r : Nat)
  (cm : ∀ w, Calls Try.prog 58 #[num A, num B, num M] w fun e w' => e = .returned (.bool true) ∧ Below w.heap.size w w')
  (ct : ∀ w, Calls Try.prog 61 #[num A, num B, num M] w fun e w' => e = .returned (num r) ∧ Below w.heap.size w w')
  (w : World) : Calls Try.prog 39 #[num A, num B, num M] w fun e w' => e = .returned (.tuple #[num r, .int .i64 0]) ∧ Below w.heap.size w w' := by
 have Hcm := Lib.hid cm
 have Hct := Lib.hid ct
 clear cm ct
 go_enter Try.func39, Try.ntmps39
 go_wp2_with fail
 have BW := Lib.hid (Below.refl w.heap.size w)
 have Ex : w.heap.size ≤ w.heap.size + 1 + 1 + 1 := by have := BW.out.size; omega
 have Dax : w.heap.size ≠ w.heap.size + 1 + 1 + 1 := by omega
 have Dbx : w.heap.size + 1 ≠ w.heap.size + 1 + 1 + 1 := by omega
 have Dmx : w.heap.size + 1 + 1 ≠ w.heap.size + 1 + 1 + 1 := by omega
 generalize hW1 : ((((w.alloc (.cells #[.int .u64 (wd A 0 : Nat), .int .u64 (wd A 1 : Nat), .int .u64 (wd A 2 : Nat), .int .u64 (wd A 3 : Nat)] 24)).alloc (.cells #[.int .u64 (wd B 0 : Nat), .int .u64 (wd B 1 : Nat), .int .u64 (wd B 2 : Nat), .int .u64 (wd B 3 : Nat)] 24)).alloc (.cells #[.int .u64 (wd M 0 : Nat), .int .u64 (wd M 1 : Nat), .int .u64 (wd M 2 : Nat), .int .u64 (wd M 3 : Nat)] 24)).alloc (.cells #[.int .u64 0, .int .u64 0, .int .u64 0, .int .u64 0] 24)) = W1 at *
 have Na : At W1 (w.heap.size) _ _ := at_of hW1 ((((At.at_ _ _ _ _ (by simp)).alloc _).alloc _).alloc _)
 have Nb : At W1 (w.heap.size + 1) _ _ := at_of hW1 (((At.at_ _ _ _ _ (by simp)).alloc _).alloc _)
 have Nm : At W1 (w.heap.size + 1 + 1) _ _ := at_of hW1 ((At.at_ _ _ _ _ (by simp)).alloc _)
 have Nx : At W1 (w.heap.size + 1 + 1 + 1) _ _ := at_of hW1 (At.at_ _ _ _ _ (by simp))
 have NB := gr_of hW1 (gr_alloc (gr_alloc (gr_alloc (gr_alloc BW.out _) _) _) _)
 clear hW1 BW 
 generalize w.heap.size + 1 + 1 + 1 = gx at *
 generalize w.heap.size + 1 + 1 = gm at *
 generalize w.heap.size + 1 = gb at *
 obtain ⟨ga, hg0⟩ : ∃ g, g = w.heap.size := ⟨_, rfl⟩
 rw [← hg0] at Na ⊢
 rw [← hg0] at Dax
 clear hg0
 have Fa := Lib.hid Na
 have Fb := Lib.hid Nb
 have Fm := Lib.hid Nm
 have Fx := Lib.hid Nx
 have BW := Lib.hid NB
 clear NB Na Nb Nm Nx
 refine (Hcm.out _).mono ?_
 rintro e v2 ⟨rfl, z2⟩
 have Na := Lib.hid (Fa.out.on z2)
 have Nb := Lib.hid (Fb.out.on z2)
 have Nm := Lib.hid (Fm.out.on z2)
 have Nx := Lib.hid (Fx.out.on z2)
 have NB := Lib.hid (bel_tr BW.out z2)
 clear BW z2 Fa Fb Fm Fx
 have Fa := Na
 have Fb := Nb
 have Fm := Nm
 have Fx := Nx
 have BW := NB
 clear NB Na Nb Nm Nx
 have La := Fa.out.lt
 have ca0 := Fa.out.c0
 have ca1 := Fa.out.c1
 have ca2 := Fa.out.c2
 have ca3 := Fa.out.c3
 have Lb := Fb.out.lt
 have cb0 := Fb.out.c0
 have cb1 := Fb.out.c1
 have cb2 := Fb.out.c2
 have cb3 := Fb.out.c3
 have Lm := Fm.out.lt
 have cm0 := Fm.out.c0
 have cm1 := Fm.out.c1
 have cm2 := Fm.out.c2
 have cm3 := Fm.out.c3
 go_wp2_with fail
 clear La ca0 ca1 ca2 ca3 Lb cb0 cb1 cb2 cb3 Lm cm0 cm1 cm2 cm3
 refine (Hct.out _).mono ?_
 rintro e v3 ⟨rfl, z3⟩
 have Na := Lib.hid (Fa.out.on z3)
 have Nb := Lib.hid (Fb.out.on z3)
 have Nm := Lib.hid (Fm.out.on z3)
 have Nx := Lib.hid (Fx.out.on z3)
 have NB := Lib.hid (bel_tr BW.out z3)
 clear BW z3 Fa Fb Fm Fx
 have Fa := Na
 have Fb := Nb
 have Fm := Nm
 have Fx := Nx
 have BW := NB
 clear NB Na Nb Nm Nx
 have Lx := Fx.out.lt
 have cx0 := Fx.out.c0
 have cx1 := Fx.out.c1
 have cx2 := Fx.out.c2
 have cx3 := Fx.out.c3
 have fx0 : v3.frozen? ⟨gx, 0, none⟩ = false := Fx.out.frozen 0
 have fx1 : v3.frozen? ⟨gx, 1, none⟩ = false := Fx.out.frozen 1
 have fx2 : v3.frozen? ⟨gx, 2, none⟩ = false := Fx.out.frozen 2
 have fx3 : v3.frozen? ⟨gx, 3, none⟩ = false := Fx.out.frozen 3
 go_wp2_with fail
 clear Lx cx0 cx1 cx2 cx3 fx0 fx1 fx2 fx3
 generalize hW4 : ((((v3.setCell ⟨gx, 0, none⟩ (.int .u64 (wd r 0 : Nat))).setCell ⟨gx, 1, none⟩ (.int .u64 (wd r 1 : Nat))).setCell ⟨gx, 2, none⟩ (.int .u64 (wd r 2 : Nat))).setCell ⟨gx, 3, none⟩ (.int .u64 (wd r 3 : Nat))) = W4 at *
 have Na := at_of hW4 ((Fa.out).far4 Dax _ _ _ _)
 have Nb := at_of hW4 ((Fb.out).far4 Dbx _ _ _ _)
 have Nm := at_of hW4 ((Fm.out).far4 Dmx _ _ _ _)
 have Nx := at_of hW4 ((Fx.out).put4 _ _ _ _)
 have NB := gr_of hW4 (((((BW.out).setCell Ex _).setCell Ex _).setCell Ex _).setCell Ex _)
 clear hW4 BW Fa Fb Fm Fx
 have Fa := Lib.hid Na
 have Fb := Lib.hid Nb
 have Fm := Lib.hid Nm
 have Fx := Lib.hid Nx
 have BW := Lib.hid NB
 clear NB Na Nb Nm Nx
 have Lx := Fx.out.lt
 have cx0 := Fx.out.c0
 have cx1 := Fx.out.c1
 have cx2 := Fx.out.c2
 have cx3 := Fx.out.c3
 refine bodyPost_ret (v := .tuple #[num r, .int .i64 0]) (by simp [results, Try.results39, go_sem, *]) rfl ⟨rfl, BW.out⟩

end Go.Proofs.Ytodlpmepoakdlaa
