/-
 The document's answers for groups: one, May, Mul, Inv, Exp, In.
-/
import Derived.Deep.Cut
import Derived.Test.YtbggihkigblnfaaMGInvT
import Derived.Test.YtbggihkigblnfaaMRCmp
import Derived.Test.YtbggihkigblnfaaMRefD
import Derived.Test.YtbggihkigblnfaaMRefE
import Derived.Test.YtbggihkigblnfaaMTree
namespace Go.Proofs.Ytbggihkigblnfaa
set_option maxRecDepth 100000
open Go.RowKit
set_option linter.unusedSimpArgs false
set_option linter.unusedVariables false
attribute [local go_sem ↓] Go.wp_at_zero Go.wp_at_succ

theorem rone_any (w : World) : Calls Try.prog 44 #[] w fun e w' => e = .returned (num 1) ∧ Below w.heap.size w w' := by
 have HC := Lib.hid (fun w => rof1_any 1 (by decide) w)
 go_enter Try.func44, Try.ntmps44
 go_wp2_with fail
 have BW := Lib.hid (Below.refl w.heap.size w)
 generalize hW1 : (w.alloc (.cells #[.int .u64 0, .int .u64 0, .int .u64 0, .int .u64 0] 24)) = W1 at *
 have No : At W1 (w.heap.size) _ _ := at_of hW1 (At.at_ _ _ _ _ (by simp))
 have NB := gr_of hW1 (gr_alloc BW.out _)
 clear hW1 BW 
 obtain ⟨go, hg0⟩ : ∃ g, g = w.heap.size := ⟨_, rfl⟩
 rw [← hg0] at No ⊢
 have Eo : w.heap.size ≤ go := by omega
 clear hg0
 have Fo := Lib.hid No
 have BW := Lib.hid NB
 clear NB No
 refine (HC.out _).mono ?_
 rintro e v2 ⟨rfl, z2⟩
 have No := Lib.hid (Fo.out.on z2)
 have NB := Lib.hid (bel_tr BW.out z2)
 clear BW z2 Fo
 have Fo := No
 have BW := NB
 clear NB No
 have Lo := Fo.out.lt
 have co0 := Fo.out.c0
 have co1 := Fo.out.c1
 have co2 := Fo.out.c2
 have co3 := Fo.out.c3
 have fo0 : v2.frozen? ⟨go, 0, none⟩ = false := Fo.out.frozen 0
 have fo1 : v2.frozen? ⟨go, 1, none⟩ = false := Fo.out.frozen 1
 have fo2 : v2.frozen? ⟨go, 2, none⟩ = false := Fo.out.frozen 2
 have fo3 : v2.frozen? ⟨go, 3, none⟩ = false := Fo.out.frozen 3
 go_wp2_with fail
 clear Lo co0 co1 co2 co3 fo0 fo1 fo2 fo3
 generalize hW3 : ((((v2.setCell ⟨go, 0, none⟩ (.int .u64 (wd 1 0 : Nat))).setCell ⟨go, 1, none⟩ (.int .u64 (wd 1 1 : Nat))).setCell ⟨go, 2, none⟩ (.int .u64 (wd 1 2 : Nat))).setCell ⟨go, 3, none⟩ (.int .u64 (wd 1 3 : Nat))) = W3 at *
 have No := at_of hW3 ((Fo.out).put4 _ _ _ _)
 have NB := gr_of hW3 (((((BW.out).setCell Eo _).setCell Eo _).setCell Eo _).setCell Eo _)
 clear hW3 BW Fo
 have Fo := Lib.hid No
 have BW := Lib.hid NB
 clear NB No
 have Lo := Fo.out.lt
 have co0 := Fo.out.c0
 have co1 := Fo.out.c1
 have co2 := Fo.out.c2
 have co3 := Fo.out.c3
 refine bodyPost_ret (v := num 1) (by simp [results, Try.results44, go_sem, *]) rfl ⟨rfl, BW.out⟩

set_option maxRecDepth 100000 in
set_option maxHeartbeats 8000000 in
theorem rmay_1 (P Q G H A : Nat) (k : Int)
  (hk : k ≤ 0)
  (c1 : ∀ w, Calls Try.prog 61 #[num P, num 1] w fun e w' => e = .returned (.int .i64 k) ∧ Below w.heap.size w w')
  (w : World) : Calls Try.prog 40 #[grp P Q G H, num A] w fun e w' => e = .returned (.bool false) ∧ Below w.heap.size w w' := by
 have Hc1 := Lib.hid c1
 clear c1
 go_enter Try.func40, Try.ntmps40
 have BW := Lib.hid (Below.refl w.heap.size w)
 go_upto_region 1 with fail
 generalize hW1 : ((w.alloc (.cells #[.int .u64 (wd P 0 : Nat), .int .u64 (wd P 1 : Nat), .int .u64 (wd P 2 : Nat), .int .u64 (wd P 3 : Nat), .int .u64 (wd Q 0 : Nat), .int .u64 (wd Q 1 : Nat), .int .u64 (wd Q 2 : Nat), .int .u64 (wd Q 3 : Nat), .int .u64 (wd G 0 : Nat), .int .u64 (wd G 1 : Nat), .int .u64 (wd G 2 : Nat), .int .u64 (wd G 3 : Nat), .int .u64 (wd H 0 : Nat), .int .u64 (wd H 1 : Nat), .int .u64 (wd H 2 : Nat), .int .u64 (wd H 3 : Nat)] 35)).alloc (.cells #[.int .u64 (wd A 0 : Nat), .int .u64 (wd A 1 : Nat), .int .u64 (wd A 2 : Nat), .int .u64 (wd A 3 : Nat)] 24)) = W1 at *
 have Nr : At W1 (w.heap.size) _ _ := at_of hW1 ((At.at_ _ _ _ _ (by simp)).alloc _)
 have Na : At W1 (w.heap.size + 1) _ _ := at_of hW1 (At.at_ _ _ _ _ (by simp))
 have NB := gr_of hW1 (gr_alloc (gr_alloc BW.out _) _)
 clear hW1 BW 
 generalize w.heap.size + 1 = ga at *
 obtain ⟨gr, hg0⟩ : ∃ g, g = w.heap.size := ⟨_, rfl⟩
 rw [← hg0] at Nr ⊢
 clear hg0
 have Fr := Lib.hid Nr
 have Fa := Lib.hid Na
 have BW := Lib.hid NB
 clear NB Nr Na
 try simp only [List.append_eq, List.cons_append, List.nil_append]
 refine wp_region_noPanic ?_
 refine wp_region_held_drew (S := fun w' => At w' gr 35 #[.int .u64 (wd P 0 : Nat), .int .u64 (wd P 1 : Nat), .int .u64 (wd P 2 : Nat), .int .u64 (wd P 3 : Nat), .int .u64 (wd Q 0 : Nat), .int .u64 (wd Q 1 : Nat), .int .u64 (wd Q 2 : Nat), .int .u64 (wd Q 3 : Nat), .int .u64 (wd G 0 : Nat), .int .u64 (wd G 1 : Nat), .int .u64 (wd G 2 : Nat), .int .u64 (wd G 3 : Nat), .int .u64 (wd H 0 : Nat), .int .u64 (wd H 1 : Nat), .int .u64 (wd H 2 : Nat), .int .u64 (wd H 3 : Nat)] ∧ At w' ga 24 #[.int .u64 (wd A 0 : Nat), .int .u64 (wd A 1 : Nat), .int .u64 (wd A 2 : Nat), .int .u64 (wd A 3 : Nat)]) (by kernel_rfl) (⟨Fr.out.drew, Fa.out.drew⟩) (fun _ => ?_)
 refine wpAnyH_cores (fuel := 1) (⟨0, 5, [], Kind.val (.pointer (some ⟨gr, 0, none⟩)), true⟩ :: ⟨1, 6, [0], Kind.val (.agg #[.int .u64 (wd P 0 : Nat), .int .u64 (wd P 1 : Nat), .int .u64 (wd P 2 : Nat), .int .u64 (wd P 3 : Nat)]), true⟩ :: ⟨2, 7, [1], Kind.val (.agg #[.int .u64 (wd 1 0 : Nat), .int .u64 (wd 1 1 : Nat), .int .u64 (wd 1 2 : Nat), .int .u64 (wd 1 3 : Nat)]), false⟩ :: ⟨3, 8, [1, 2], Kind.val (.int .i64 k), false⟩ :: ⟨4, 9, [3], Kind.val (.bool false), true⟩ :: ⟨5, 10, [4], Kind.val (.bool false), true⟩ :: ⟨6, 11, [5], Kind.val (undef), true⟩ :: ⟨7, 12, [5, 6], Kind.val (undef), true⟩ :: ⟨8, 13, [5, 6, 7], Kind.val (undef), true⟩ :: ⟨9, 14, [5, 8], Kind.val (.bool false), true⟩ :: ⟨10, 15, [9], Kind.val (.bool false), true⟩ :: ⟨11, 16, [10], Kind.val (undef), true⟩ :: ⟨12, 17, [10, 11], Kind.val (undef), true⟩ :: ⟨13, 18, [10, 12], Kind.val (undef), true⟩ :: ⟨14, 19, [10, 11, 13], Kind.val (undef), true⟩ :: ⟨15, 20, [10, 14], Kind.val (undef), true⟩ :: ⟨16, 21, [10, 15], Kind.val (.bool false), true⟩ :: []) _ _ W1 _ ?_ ?_ ?_ ?_ ?_ ?_ ?_ ?_ ?_ ?_ ?_
 ·rfl
 ·kernel_rfl
 ·exact of_decide_eq_true (by kernel_rfl)
 ·(repeat refine all_cons ⟨_, by rfl, by rfl⟩ ?_); exact all_nil
 ·exact fun _ hb => ⟨Fr.out.on hb, Fa.out.on hb⟩
 ·exact (Below.refl _ _).drew
 ·kernel_rfl
 ·exact fun _ _ _ _ _ h => h
 ·(repeat (refine all_cons ?_ ?_; rotate_left)); exact all_nil
  ·exact coreG_held _ _ _ _ _ _ _ _ _ (by rfl) (by rfl) (wants_none) (ko 2) (fun ρ w hx _ => fieldG0 _ _ _ _ _ _ ρ w gr hx)
  ·exact coreG_held _ _ _ _ _ _ _ _ _ (by rfl) (by rfl) (wants_none) (kc 0 5) (fun ρ w hx hs => loadG0 _ _ _ _ _ _ ρ w gr _ _ _ _ _ _ _ _ _ _ _ _ _ _ _ _  hx (hs.1))
  ·exact core_pureAs _ (by rfl)
  ·exact core_pureAs _ (by rfl)
  ·exact coreG_bin _ _ _ _ _ _ _ _ _ _ _ _ _ (by rfl) (by rfl) (wants_none) (kc 3 8) (known_const _) ((fun ρ w hx hy => by simp only [execOp, hx, hy]; simp [go_sem]; exact hk))
  ·exact coreG_move _ _ _ _ _ _ _ (by rfl) (by rfl) (wants_none) (kc 4 9)
  ·exact coreG_skip _ _ _ _ _ _ (by rfl) (by rfl) (wc 5 10 5 (kc 5 10))
  ·exact coreG_skip _ _ _ _ _ _ (by rfl) (by rfl) (wc 5 10 5 (kc 5 10))
  ·exact coreG_skip _ _ _ _ _ _ (by rfl) (by rfl) (wc 5 10 5 (kc 5 10))
  ·exact coreG_pick _ _ _ _ _ _ _ _ _ _ _ _ (by rfl) (by rfl) (wants_none) (kc 5 10) (kc 8 13) (known_const _) (by rfl)
  ·exact coreG_move _ _ _ _ _ _ _ (by rfl) (by rfl) (wants_none) (kc 9 14)
  ·exact coreG_skip _ _ _ _ _ _ (by rfl) (by rfl) (wc 10 15 10 (kc 10 15))
  ·exact coreG_skip _ _ _ _ _ _ (by rfl) (by rfl) (wc 10 15 10 (kc 10 15))
  ·exact coreG_skip _ _ _ _ _ _ (by rfl) (by rfl) (wc 10 15 10 (kc 10 15))
  ·exact coreG_skip _ _ _ _ _ _ (by rfl) (by rfl) (wc 10 15 10 (kc 10 15))
  ·exact coreG_skip _ _ _ _ _ _ (by rfl) (by rfl) (wc 10 15 10 (kc 10 15))
  ·exact coreG_pick _ _ _ _ _ _ _ _ _ _ _ _ (by rfl) (by rfl) (wants_none) (kc 10 15) (kc 15 20) (known_const _) (by rfl)
 ·(repeat (refine all_cons ?_ ?_; rotate_left)); exact all_nil
  ·exact sA
  ·exact sA
  ·exact fun _ => coreG_call _ 44 _ _ [] _ _ _ _ _ _ _ (by rfl) Try.func44 (by kernel_rfl) (by rfl) (by rfl) (wants_none) .nil (rone_any)
  ·exact fun _ => coreG_call _ 61 _ _ [.tmp 6, .tmp 7] _ _ _ _ _ _ _ (by rfl) Try.func61 (by kernel_rfl) (by rfl) (by rfl) (wants_none) (.cons (kc 1 6) (.cons (kc 2 7) .nil)) (Hc1.out)
  ·exact sA
  ·exact sA
  ·exact sA
  ·exact sA
  ·exact sA
  ·exact sA
  ·exact sA
  ·exact sA
  ·exact sA
  ·exact sA
  ·exact sA
  ·exact sA
  ·exact sA
 intro vs y2 hc
 have BZ := bel_tr BW.out hc.bel
 refine assign_one (i := 17) (.tmp 21) 4 _ _ _ (.bool false) (by kernel_rfl) (by rfl) (hc.at_ (of_decide_eq_true (by kernel_rfl)) (by rfl) 16 21 _ (.bool false) (by rfl) (by rfl) (by rfl)) (⟨Fr.out.on hc.bel, Fa.out.on hc.bel⟩) ?_
 refine wpAnyH_done (by kernel_rfl) ?_ _
 refine NoPanic.normal ?_
 generalize hA : Act.put (over _ _ vs) (some 4) (.bool false) = A
 have hA0 : A.tmps.getD 4 undef = .bool false := by rw [← hA]; exact put_at _ _ _ (by rw [over_size]; exact Nat.le_of_ble_eq_true rfl)
 have hAd : A.defers = [] := by rw [← hA, put_defers, over_defers]
 clear hA hc
 go_wp2_with fail
 refine bodyPost_ret (v := .bool false) (by simp [results, Try.results40, go_sem] at hA0 ⊢; simp [hA0]) hAd ⟨rfl, BZ⟩

set_option maxRecDepth 100000 in
set_option maxHeartbeats 8000000 in
theorem rmay_2 (P Q G H A : Nat) (k : Int)
  (hk : 0 < k)
  (c1 : ∀ w, Calls Try.prog 61 #[num P, num 1] w fun e w' => e = .returned (.int .i64 k) ∧ Below w.heap.size w w')
  (e : ∀ w : World, (Op.equalIn 10000 24 (num A) (.agg #[.int .u64 0, .int .u64 0, .int .u64 0, .int .u64 0])).run Try.prog w = .ok true w)
  (w : World) : Calls Try.prog 40 #[grp P Q G H, num A] w fun e w' => e = .returned (.bool false) ∧ Below w.heap.size w w' := by
 have Hc1 := Lib.hid c1
 have He := Lib.hid e
 clear c1 e
 go_enter Try.func40, Try.ntmps40
 have BW := Lib.hid (Below.refl w.heap.size w)
 go_upto_region 1 with fail
 generalize hW1 : ((w.alloc (.cells #[.int .u64 (wd P 0 : Nat), .int .u64 (wd P 1 : Nat), .int .u64 (wd P 2 : Nat), .int .u64 (wd P 3 : Nat), .int .u64 (wd Q 0 : Nat), .int .u64 (wd Q 1 : Nat), .int .u64 (wd Q 2 : Nat), .int .u64 (wd Q 3 : Nat), .int .u64 (wd G 0 : Nat), .int .u64 (wd G 1 : Nat), .int .u64 (wd G 2 : Nat), .int .u64 (wd G 3 : Nat), .int .u64 (wd H 0 : Nat), .int .u64 (wd H 1 : Nat), .int .u64 (wd H 2 : Nat), .int .u64 (wd H 3 : Nat)] 35)).alloc (.cells #[.int .u64 (wd A 0 : Nat), .int .u64 (wd A 1 : Nat), .int .u64 (wd A 2 : Nat), .int .u64 (wd A 3 : Nat)] 24)) = W1 at *
 have Nr : At W1 (w.heap.size) _ _ := at_of hW1 ((At.at_ _ _ _ _ (by simp)).alloc _)
 have Na : At W1 (w.heap.size + 1) _ _ := at_of hW1 (At.at_ _ _ _ _ (by simp))
 have NB := gr_of hW1 (gr_alloc (gr_alloc BW.out _) _)
 clear hW1 BW 
 generalize w.heap.size + 1 = ga at *
 obtain ⟨gr, hg0⟩ : ∃ g, g = w.heap.size := ⟨_, rfl⟩
 rw [← hg0] at Nr ⊢
 clear hg0
 have Fr := Lib.hid Nr
 have Fa := Lib.hid Na
 have BW := Lib.hid NB
 clear NB Nr Na
 try simp only [List.append_eq, List.cons_append, List.nil_append]
 refine wp_region_noPanic ?_
 refine wp_region_held_drew (S := fun w' => At w' gr 35 #[.int .u64 (wd P 0 : Nat), .int .u64 (wd P 1 : Nat), .int .u64 (wd P 2 : Nat), .int .u64 (wd P 3 : Nat), .int .u64 (wd Q 0 : Nat), .int .u64 (wd Q 1 : Nat), .int .u64 (wd Q 2 : Nat), .int .u64 (wd Q 3 : Nat), .int .u64 (wd G 0 : Nat), .int .u64 (wd G 1 : Nat), .int .u64 (wd G 2 : Nat), .int .u64 (wd G 3 : Nat), .int .u64 (wd H 0 : Nat), .int .u64 (wd H 1 : Nat), .int .u64 (wd H 2 : Nat), .int .u64 (wd H 3 : Nat)] ∧ At w' ga 24 #[.int .u64 (wd A 0 : Nat), .int .u64 (wd A 1 : Nat), .int .u64 (wd A 2 : Nat), .int .u64 (wd A 3 : Nat)]) (by kernel_rfl) (⟨Fr.out.drew, Fa.out.drew⟩) (fun _ => ?_)
 refine wpAnyH_cores (fuel := 1) (⟨0, 5, [], Kind.val (.pointer (some ⟨gr, 0, none⟩)), true⟩ :: ⟨1, 6, [0], Kind.val (.agg #[.int .u64 (wd P 0 : Nat), .int .u64 (wd P 1 : Nat), .int .u64 (wd P 2 : Nat), .int .u64 (wd P 3 : Nat)]), true⟩ :: ⟨2, 7, [1], Kind.val (.agg #[.int .u64 (wd 1 0 : Nat), .int .u64 (wd 1 1 : Nat), .int .u64 (wd 1 2 : Nat), .int .u64 (wd 1 3 : Nat)]), false⟩ :: ⟨3, 8, [1, 2], Kind.val (.int .i64 k), false⟩ :: ⟨4, 9, [3], Kind.val (.bool true), true⟩ :: ⟨5, 10, [4], Kind.val (.bool true), true⟩ :: ⟨6, 11, [5], Kind.val (.agg #[.int .u64 (wd A 0 : Nat), .int .u64 (wd A 1 : Nat), .int .u64 (wd A 2 : Nat), .int .u64 (wd A 3 : Nat)]), true⟩ :: ⟨7, 12, [5, 6], Kind.val (.agg #[.int .u64 0, .int .u64 0, .int .u64 0, .int .u64 0]), true⟩ :: ⟨8, 13, [5, 6, 7], Kind.val (.bool false), true⟩ :: ⟨9, 14, [5, 8], Kind.val (.bool false), true⟩ :: ⟨10, 15, [9], Kind.val (.bool false), true⟩ :: ⟨11, 16, [10], Kind.val (undef), true⟩ :: ⟨12, 17, [10, 11], Kind.val (undef), true⟩ :: ⟨13, 18, [10, 12], Kind.val (undef), true⟩ :: ⟨14, 19, [10, 11, 13], Kind.val (undef), true⟩ :: ⟨15, 20, [10, 14], Kind.val (undef), true⟩ :: ⟨16, 21, [10, 15], Kind.val (.bool false), true⟩ :: []) _ _ W1 _ ?_ ?_ ?_ ?_ ?_ ?_ ?_ ?_ ?_ ?_ ?_
 ·rfl
 ·kernel_rfl
 ·exact of_decide_eq_true (by kernel_rfl)
 ·(repeat refine all_cons ⟨_, by rfl, by rfl⟩ ?_); exact all_nil
 ·exact fun _ hb => ⟨Fr.out.on hb, Fa.out.on hb⟩
 ·exact (Below.refl _ _).drew
 ·kernel_rfl
 ·exact fun _ _ _ _ _ h => h
 ·(repeat (refine all_cons ?_ ?_; rotate_left)); exact all_nil
  ·exact coreG_held _ _ _ _ _ _ _ _ _ (by rfl) (by rfl) (wants_none) (ko 2) (fun ρ w hx _ => fieldG0 _ _ _ _ _ _ ρ w gr hx)
  ·exact coreG_held _ _ _ _ _ _ _ _ _ (by rfl) (by rfl) (wants_none) (kc 0 5) (fun ρ w hx hs => loadG0 _ _ _ _ _ _ ρ w gr _ _ _ _ _ _ _ _ _ _ _ _ _ _ _ _  hx (hs.1))
  ·exact core_pureAs _ (by rfl)
  ·exact core_pureAs _ (by rfl)
  ·exact coreG_bin _ _ _ _ _ _ _ _ _ _ _ _ _ (by rfl) (by rfl) (wants_none) (kc 3 8) (known_const _) ((fun ρ w hx hy => by simp only [execOp, hx, hy]; simp [go_sem]; exact hk))
  ·exact coreG_move _ _ _ _ _ _ _ (by rfl) (by rfl) (wants_none) (kc 4 9)
  ·exact coreG_loadP _ _ _ _ _ _ ga _ _ _ _ (by rfl) (by rfl) (wc 5 10 5 (kc 5 10)) (ko 3) (fun _ hs => hs.2)
  ·exact coreG_pure _ _ _ _ _ _ _ (by rfl) (by rfl) (wc 5 10 5 (kc 5 10)) (fun _ _ _ _ w _ => buildZ _ _ _ _ _ _ w)
  ·exact coreG_bin _ _ _ _ _ _ _ _ _ _ _ _ _ (by rfl) (by rfl) (wc 5 10 5 (kc 5 10)) (kc 6 11) (kc 7 12) (neq_run true _ _ _ _ _ _ _ _ _ _ _ _ _ _ _ He.out)
  ·exact coreG_pick _ _ _ _ _ _ _ _ _ _ _ _ (by rfl) (by rfl) (wants_none) (kc 5 10) (kc 8 13) (known_const _) (by rfl)
  ·exact coreG_move _ _ _ _ _ _ _ (by rfl) (by rfl) (wants_none) (kc 9 14)
  ·exact coreG_skip _ _ _ _ _ _ (by rfl) (by rfl) (wc 10 15 10 (kc 10 15))
  ·exact coreG_skip _ _ _ _ _ _ (by rfl) (by rfl) (wc 10 15 10 (kc 10 15))
  ·exact coreG_skip _ _ _ _ _ _ (by rfl) (by rfl) (wc 10 15 10 (kc 10 15))
  ·exact coreG_skip _ _ _ _ _ _ (by rfl) (by rfl) (wc 10 15 10 (kc 10 15))
  ·exact coreG_skip _ _ _ _ _ _ (by rfl) (by rfl) (wc 10 15 10 (kc 10 15))
  ·exact coreG_pick _ _ _ _ _ _ _ _ _ _ _ _ (by rfl) (by rfl) (wants_none) (kc 10 15) (kc 15 20) (known_const _) (by rfl)
 ·(repeat (refine all_cons ?_ ?_; rotate_left)); exact all_nil
  ·exact sA
  ·exact sA
  ·exact fun _ => coreG_call _ 44 _ _ [] _ _ _ _ _ _ _ (by rfl) Try.func44 (by kernel_rfl) (by rfl) (by rfl) (wants_none) .nil (rone_any)
  ·exact fun _ => coreG_call _ 61 _ _ [.tmp 6, .tmp 7] _ _ _ _ _ _ _ (by rfl) Try.func61 (by kernel_rfl) (by rfl) (by rfl) (wants_none) (.cons (kc 1 6) (.cons (kc 2 7) .nil)) (Hc1.out)
  ·exact sA
  ·exact sA
  ·exact sA
  ·exact sA
  ·exact sA
  ·exact sA
  ·exact sA
  ·exact sA
  ·exact sA
  ·exact sA
  ·exact sA
  ·exact sA
  ·exact sA
 intro vs y2 hc
 have BZ := bel_tr BW.out hc.bel
 refine assign_one (i := 17) (.tmp 21) 4 _ _ _ (.bool false) (by kernel_rfl) (by rfl) (hc.at_ (of_decide_eq_true (by kernel_rfl)) (by rfl) 16 21 _ (.bool false) (by rfl) (by rfl) (by rfl)) (⟨Fr.out.on hc.bel, Fa.out.on hc.bel⟩) ?_
 refine wpAnyH_done (by kernel_rfl) ?_ _
 refine NoPanic.normal ?_
 generalize hA : Act.put (over _ _ vs) (some 4) (.bool false) = A
 have hA0 : A.tmps.getD 4 undef = .bool false := by rw [← hA]; exact put_at _ _ _ (by rw [over_size]; exact Nat.le_of_ble_eq_true rfl)
 have hAd : A.defers = [] := by rw [← hA, put_defers, over_defers]
 clear hA hc
 go_wp2_with fail
 refine bodyPost_ret (v := .bool false) (by simp [results, Try.results40, go_sem] at hA0 ⊢; simp [hA0]) hAd ⟨rfl, BZ⟩

set_option maxRecDepth 100000 in
set_option maxHeartbeats 8000000 in
theorem rmay_3 (P Q G H A : Nat) (k j : Int)
  (hk : 0 < k)
  (hj : 0 ≤ j)
  (c1 : ∀ w, Calls Try.prog 61 #[num P, num 1] w fun e w' => e = .returned (.int .i64 k) ∧ Below w.heap.size w w')
  (c2 : ∀ w, Calls Try.prog 61 #[num A, num P] w fun e w' => e = .returned (.int .i64 j) ∧ Below w.heap.size w w')
  (e : ∀ w : World, (Op.equalIn 10000 24 (num A) (.agg #[.int .u64 0, .int .u64 0, .int .u64 0, .int .u64 0])).run Try.prog w = .ok false w)
  (w : World) : Calls Try.prog 40 #[grp P Q G H, num A] w fun e w' => e = .returned (.bool false) ∧ Below w.heap.size w w' := by
 have Hc1 := Lib.hid c1
 have Hc2 := Lib.hid c2
 have He := Lib.hid e
 clear c1 c2 e
 go_enter Try.func40, Try.ntmps40
 have BW := Lib.hid (Below.refl w.heap.size w)
 go_upto_region 1 with fail
 generalize hW1 : ((w.alloc (.cells #[.int .u64 (wd P 0 : Nat), .int .u64 (wd P 1 : Nat), .int .u64 (wd P 2 : Nat), .int .u64 (wd P 3 : Nat), .int .u64 (wd Q 0 : Nat), .int .u64 (wd Q 1 : Nat), .int .u64 (wd Q 2 : Nat), .int .u64 (wd Q 3 : Nat), .int .u64 (wd G 0 : Nat), .int .u64 (wd G 1 : Nat), .int .u64 (wd G 2 : Nat), .int .u64 (wd G 3 : Nat), .int .u64 (wd H 0 : Nat), .int .u64 (wd H 1 : Nat), .int .u64 (wd H 2 : Nat), .int .u64 (wd H 3 : Nat)] 35)).alloc (.cells #[.int .u64 (wd A 0 : Nat), .int .u64 (wd A 1 : Nat), .int .u64 (wd A 2 : Nat), .int .u64 (wd A 3 : Nat)] 24)) = W1 at *
 have Nr : At W1 (w.heap.size) _ _ := at_of hW1 ((At.at_ _ _ _ _ (by simp)).alloc _)
 have Na : At W1 (w.heap.size + 1) _ _ := at_of hW1 (At.at_ _ _ _ _ (by simp))
 have NB := gr_of hW1 (gr_alloc (gr_alloc BW.out _) _)
 clear hW1 BW 
 generalize w.heap.size + 1 = ga at *
 obtain ⟨gr, hg0⟩ : ∃ g, g = w.heap.size := ⟨_, rfl⟩
 rw [← hg0] at Nr ⊢
 clear hg0
 have Fr := Lib.hid Nr
 have Fa := Lib.hid Na
 have BW := Lib.hid NB
 clear NB Nr Na
 try simp only [List.append_eq, List.cons_append, List.nil_append]
 refine wp_region_noPanic ?_
 refine wp_region_held_drew (S := fun w' => At w' gr 35 #[.int .u64 (wd P 0 : Nat), .int .u64 (wd P 1 : Nat), .int .u64 (wd P 2 : Nat), .int .u64 (wd P 3 : Nat), .int .u64 (wd Q 0 : Nat), .int .u64 (wd Q 1 : Nat), .int .u64 (wd Q 2 : Nat), .int .u64 (wd Q 3 : Nat), .int .u64 (wd G 0 : Nat), .int .u64 (wd G 1 : Nat), .int .u64 (wd G 2 : Nat), .int .u64 (wd G 3 : Nat), .int .u64 (wd H 0 : Nat), .int .u64 (wd H 1 : Nat), .int .u64 (wd H 2 : Nat), .int .u64 (wd H 3 : Nat)] ∧ At w' ga 24 #[.int .u64 (wd A 0 : Nat), .int .u64 (wd A 1 : Nat), .int .u64 (wd A 2 : Nat), .int .u64 (wd A 3 : Nat)]) (by kernel_rfl) (⟨Fr.out.drew, Fa.out.drew⟩) (fun _ => ?_)
 refine wpAnyH_cores (fuel := 1) (⟨0, 5, [], Kind.val (.pointer (some ⟨gr, 0, none⟩)), true⟩ :: ⟨1, 6, [0], Kind.val (.agg #[.int .u64 (wd P 0 : Nat), .int .u64 (wd P 1 : Nat), .int .u64 (wd P 2 : Nat), .int .u64 (wd P 3 : Nat)]), true⟩ :: ⟨2, 7, [1], Kind.val (.agg #[.int .u64 (wd 1 0 : Nat), .int .u64 (wd 1 1 : Nat), .int .u64 (wd 1 2 : Nat), .int .u64 (wd 1 3 : Nat)]), false⟩ :: ⟨3, 8, [1, 2], Kind.val (.int .i64 k), false⟩ :: ⟨4, 9, [3], Kind.val (.bool true), true⟩ :: ⟨5, 10, [4], Kind.val (.bool true), true⟩ :: ⟨6, 11, [5], Kind.val (.agg #[.int .u64 (wd A 0 : Nat), .int .u64 (wd A 1 : Nat), .int .u64 (wd A 2 : Nat), .int .u64 (wd A 3 : Nat)]), true⟩ :: ⟨7, 12, [5, 6], Kind.val (.agg #[.int .u64 0, .int .u64 0, .int .u64 0, .int .u64 0]), true⟩ :: ⟨8, 13, [5, 6, 7], Kind.val (.bool true), true⟩ :: ⟨9, 14, [5, 8], Kind.val (.bool true), true⟩ :: ⟨10, 15, [9], Kind.val (.bool true), true⟩ :: ⟨11, 16, [10], Kind.val (.agg #[.int .u64 (wd A 0 : Nat), .int .u64 (wd A 1 : Nat), .int .u64 (wd A 2 : Nat), .int .u64 (wd A 3 : Nat)]), true⟩ :: ⟨12, 17, [10, 11], Kind.val (.pointer (some ⟨gr, 0, none⟩)), true⟩ :: ⟨13, 18, [10, 12], Kind.val (.agg #[.int .u64 (wd P 0 : Nat), .int .u64 (wd P 1 : Nat), .int .u64 (wd P 2 : Nat), .int .u64 (wd P 3 : Nat)]), true⟩ :: ⟨14, 19, [10, 11, 13], Kind.val (.int .i64 j), false⟩ :: ⟨15, 20, [10, 14], Kind.val (.bool false), true⟩ :: ⟨16, 21, [10, 15], Kind.val (.bool false), true⟩ :: []) _ _ W1 _ ?_ ?_ ?_ ?_ ?_ ?_ ?_ ?_ ?_ ?_ ?_
 ·rfl
 ·kernel_rfl
 ·exact of_decide_eq_true (by kernel_rfl)
 ·(repeat refine all_cons ⟨_, by rfl, by rfl⟩ ?_); exact all_nil
 ·exact fun _ hb => ⟨Fr.out.on hb, Fa.out.on hb⟩
 ·exact (Below.refl _ _).drew
 ·kernel_rfl
 ·exact fun _ _ _ _ _ h => h
 ·(repeat (refine all_cons ?_ ?_; rotate_left)); exact all_nil
  ·exact coreG_held _ _ _ _ _ _ _ _ _ (by rfl) (by rfl) (wants_none) (ko 2) (fun ρ w hx _ => fieldG0 _ _ _ _ _ _ ρ w gr hx)
  ·exact coreG_held _ _ _ _ _ _ _ _ _ (by rfl) (by rfl) (wants_none) (kc 0 5) (fun ρ w hx hs => loadG0 _ _ _ _ _ _ ρ w gr _ _ _ _ _ _ _ _ _ _ _ _ _ _ _ _  hx (hs.1))
  ·exact core_pureAs _ (by rfl)
  ·exact core_pureAs _ (by rfl)
  ·exact coreG_bin _ _ _ _ _ _ _ _ _ _ _ _ _ (by rfl) (by rfl) (wants_none) (kc 3 8) (known_const _) ((fun ρ w hx hy => by simp only [execOp, hx, hy]; simp [go_sem]; exact hk))
  ·exact coreG_move _ _ _ _ _ _ _ (by rfl) (by rfl) (wants_none) (kc 4 9)
  ·exact coreG_loadP _ _ _ _ _ _ ga _ _ _ _ (by rfl) (by rfl) (wc 5 10 5 (kc 5 10)) (ko 3) (fun _ hs => hs.2)
  ·exact coreG_pure _ _ _ _ _ _ _ (by rfl) (by rfl) (wc 5 10 5 (kc 5 10)) (fun _ _ _ _ w _ => buildZ _ _ _ _ _ _ w)
  ·exact coreG_bin _ _ _ _ _ _ _ _ _ _ _ _ _ (by rfl) (by rfl) (wc 5 10 5 (kc 5 10)) (kc 6 11) (kc 7 12) (neq_run false _ _ _ _ _ _ _ _ _ _ _ _ _ _ _ He.out)
  ·exact coreG_pick _ _ _ _ _ _ _ _ _ _ _ _ (by rfl) (by rfl) (wants_none) (kc 5 10) (kc 8 13) (known_const _) (by rfl)
  ·exact coreG_move _ _ _ _ _ _ _ (by rfl) (by rfl) (wants_none) (kc 9 14)
  ·exact coreG_loadP _ _ _ _ _ _ ga _ _ _ _ (by rfl) (by rfl) (wc 10 15 10 (kc 10 15)) (ko 3) (fun _ hs => hs.2)
  ·exact coreG_held _ _ _ _ _ _ _ _ _ (by rfl) (by rfl) (wc 10 15 10 (kc 10 15)) (ko 2) (fun ρ w hx _ => fieldG0 _ _ _ _ _ _ ρ w gr hx)
  ·exact coreG_held _ _ _ _ _ _ _ _ _ (by rfl) (by rfl) (wc 10 15 10 (kc 10 15)) (kc 12 17) (fun ρ w hx hs => loadG0 _ _ _ _ _ _ ρ w gr _ _ _ _ _ _ _ _ _ _ _ _ _ _ _ _  hx (hs.1))
  ·exact core_pureAs _ (by rfl)
  ·exact coreG_bin _ _ _ _ _ _ _ _ _ _ _ _ _ (by rfl) (by rfl) (wc 10 15 10 (kc 10 15)) (kc 14 19) (known_const _) ((fun ρ w hx hy => by simp only [execOp, hx, hy]; simp [go_sem]; exact hj))
  ·exact coreG_pick _ _ _ _ _ _ _ _ _ _ _ _ (by rfl) (by rfl) (wants_none) (kc 10 15) (kc 15 20) (known_const _) (by rfl)
 ·(repeat (refine all_cons ?_ ?_; rotate_left)); exact all_nil
  ·exact sA
  ·exact sA
  ·exact fun _ => coreG_call _ 44 _ _ [] _ _ _ _ _ _ _ (by rfl) Try.func44 (by kernel_rfl) (by rfl) (by rfl) (wants_none) .nil (rone_any)
  ·exact fun _ => coreG_call _ 61 _ _ [.tmp 6, .tmp 7] _ _ _ _ _ _ _ (by rfl) Try.func61 (by kernel_rfl) (by rfl) (by rfl) (wants_none) (.cons (kc 1 6) (.cons (kc 2 7) .nil)) (Hc1.out)
  ·exact sA
  ·exact sA
  ·exact sA
  ·exact sA
  ·exact sA
  ·exact sA
  ·exact sA
  ·exact sA
  ·exact sA
  ·exact sA
  ·exact fun _ => coreG_call _ 61 _ _ [.tmp 16, .tmp 18] _ _ _ _ _ _ _ (by rfl) Try.func61 (by kernel_rfl) (by rfl) (by rfl) (wc 10 15 10 (kc 10 15)) (.cons (kc 11 16) (.cons (kc 13 18) .nil)) (Hc2.out)
  ·exact sA
  ·exact sA
 intro vs y2 hc
 have BZ := bel_tr BW.out hc.bel
 refine assign_one (i := 17) (.tmp 21) 4 _ _ _ (.bool false) (by kernel_rfl) (by rfl) (hc.at_ (of_decide_eq_true (by kernel_rfl)) (by rfl) 16 21 _ (.bool false) (by rfl) (by rfl) (by rfl)) (⟨Fr.out.on hc.bel, Fa.out.on hc.bel⟩) ?_
 refine wpAnyH_done (by kernel_rfl) ?_ _
 refine NoPanic.normal ?_
 generalize hA : Act.put (over _ _ vs) (some 4) (.bool false) = A
 have hA0 : A.tmps.getD 4 undef = .bool false := by rw [← hA]; exact put_at _ _ _ (by rw [over_size]; exact Nat.le_of_ble_eq_true rfl)
 have hAd : A.defers = [] := by rw [← hA, put_defers, over_defers]
 clear hA hc
 go_wp2_with fail
 refine bodyPost_ret (v := .bool false) (by simp [results, Try.results40, go_sem] at hA0 ⊢; simp [hA0]) hAd ⟨rfl, BZ⟩

set_option maxRecDepth 100000 in
set_option maxHeartbeats 8000000 in
theorem rmay_4 (P Q G H A : Nat) (k j : Int)
  (hk : 0 < k)
  (hj : j < 0)
  (c1 : ∀ w, Calls Try.prog 61 #[num P, num 1] w fun e w' => e = .returned (.int .i64 k) ∧ Below w.heap.size w w')
  (c2 : ∀ w, Calls Try.prog 61 #[num A, num P] w fun e w' => e = .returned (.int .i64 j) ∧ Below w.heap.size w w')
  (e : ∀ w : World, (Op.equalIn 10000 24 (num A) (.agg #[.int .u64 0, .int .u64 0, .int .u64 0, .int .u64 0])).run Try.prog w = .ok false w)
  (w : World) : Calls Try.prog 40 #[grp P Q G H, num A] w fun e w' => e = .returned (.bool true) ∧ Below w.heap.size w w' := by
 have Hc1 := Lib.hid c1
 have Hc2 := Lib.hid c2
 have He := Lib.hid e
 clear c1 c2 e
 go_enter Try.func40, Try.ntmps40
 have BW := Lib.hid (Below.refl w.heap.size w)
 go_upto_region 1 with fail
 generalize hW1 : ((w.alloc (.cells #[.int .u64 (wd P 0 : Nat), .int .u64 (wd P 1 : Nat), .int .u64 (wd P 2 : Nat), .int .u64 (wd P 3 : Nat), .int .u64 (wd Q 0 : Nat), .int .u64 (wd Q 1 : Nat), .int .u64 (wd Q 2 : Nat), .int .u64 (wd Q 3 : Nat), .int .u64 (wd G 0 : Nat), .int .u64 (wd G 1 : Nat), .int .u64 (wd G 2 : Nat), .int .u64 (wd G 3 : Nat), .int .u64 (wd H 0 : Nat), .int .u64 (wd H 1 : Nat), .int .u64 (wd H 2 : Nat), .int .u64 (wd H 3 : Nat)] 35)).alloc (.cells #[.int .u64 (wd A 0 : Nat), .int .u64 (wd A 1 : Nat), .int .u64 (wd A 2 : Nat), .int .u64 (wd A 3 : Nat)] 24)) = W1 at *
 have Nr : At W1 (w.heap.size) _ _ := at_of hW1 ((At.at_ _ _ _ _ (by simp)).alloc _)
 have Na : At W1 (w.heap.size + 1) _ _ := at_of hW1 (At.at_ _ _ _ _ (by simp))
 have NB := gr_of hW1 (gr_alloc (gr_alloc BW.out _) _)
 clear hW1 BW 
 generalize w.heap.size + 1 = ga at *
 obtain ⟨gr, hg0⟩ : ∃ g, g = w.heap.size := ⟨_, rfl⟩
 rw [← hg0] at Nr ⊢
 clear hg0
 have Fr := Lib.hid Nr
 have Fa := Lib.hid Na
 have BW := Lib.hid NB
 clear NB Nr Na
 try simp only [List.append_eq, List.cons_append, List.nil_append]
 refine wp_region_noPanic ?_
 refine wp_region_held_drew (S := fun w' => At w' gr 35 #[.int .u64 (wd P 0 : Nat), .int .u64 (wd P 1 : Nat), .int .u64 (wd P 2 : Nat), .int .u64 (wd P 3 : Nat), .int .u64 (wd Q 0 : Nat), .int .u64 (wd Q 1 : Nat), .int .u64 (wd Q 2 : Nat), .int .u64 (wd Q 3 : Nat), .int .u64 (wd G 0 : Nat), .int .u64 (wd G 1 : Nat), .int .u64 (wd G 2 : Nat), .int .u64 (wd G 3 : Nat), .int .u64 (wd H 0 : Nat), .int .u64 (wd H 1 : Nat), .int .u64 (wd H 2 : Nat), .int .u64 (wd H 3 : Nat)] ∧ At w' ga 24 #[.int .u64 (wd A 0 : Nat), .int .u64 (wd A 1 : Nat), .int .u64 (wd A 2 : Nat), .int .u64 (wd A 3 : Nat)]) (by kernel_rfl) (⟨Fr.out.drew, Fa.out.drew⟩) (fun _ => ?_)
 refine wpAnyH_cores (fuel := 1) (⟨0, 5, [], Kind.val (.pointer (some ⟨gr, 0, none⟩)), true⟩ :: ⟨1, 6, [0], Kind.val (.agg #[.int .u64 (wd P 0 : Nat), .int .u64 (wd P 1 : Nat), .int .u64 (wd P 2 : Nat), .int .u64 (wd P 3 : Nat)]), true⟩ :: ⟨2, 7, [1], Kind.val (.agg #[.int .u64 (wd 1 0 : Nat), .int .u64 (wd 1 1 : Nat), .int .u64 (wd 1 2 : Nat), .int .u64 (wd 1 3 : Nat)]), false⟩ :: ⟨3, 8, [1, 2], Kind.val (.int .i64 k), false⟩ :: ⟨4, 9, [3], Kind.val (.bool true), true⟩ :: ⟨5, 10, [4], Kind.val (.bool true), true⟩ :: ⟨6, 11, [5], Kind.val (.agg #[.int .u64 (wd A 0 : Nat), .int .u64 (wd A 1 : Nat), .int .u64 (wd A 2 : Nat), .int .u64 (wd A 3 : Nat)]), true⟩ :: ⟨7, 12, [5, 6], Kind.val (.agg #[.int .u64 0, .int .u64 0, .int .u64 0, .int .u64 0]), true⟩ :: ⟨8, 13, [5, 6, 7], Kind.val (.bool true), true⟩ :: ⟨9, 14, [5, 8], Kind.val (.bool true), true⟩ :: ⟨10, 15, [9], Kind.val (.bool true), true⟩ :: ⟨11, 16, [10], Kind.val (.agg #[.int .u64 (wd A 0 : Nat), .int .u64 (wd A 1 : Nat), .int .u64 (wd A 2 : Nat), .int .u64 (wd A 3 : Nat)]), true⟩ :: ⟨12, 17, [10, 11], Kind.val (.pointer (some ⟨gr, 0, none⟩)), true⟩ :: ⟨13, 18, [10, 12], Kind.val (.agg #[.int .u64 (wd P 0 : Nat), .int .u64 (wd P 1 : Nat), .int .u64 (wd P 2 : Nat), .int .u64 (wd P 3 : Nat)]), true⟩ :: ⟨14, 19, [10, 11, 13], Kind.val (.int .i64 j), false⟩ :: ⟨15, 20, [10, 14], Kind.val (.bool true), true⟩ :: ⟨16, 21, [10, 15], Kind.val (.bool true), true⟩ :: []) _ _ W1 _ ?_ ?_ ?_ ?_ ?_ ?_ ?_ ?_ ?_ ?_ ?_
 ·rfl
 ·kernel_rfl
 ·exact of_decide_eq_true (by kernel_rfl)
 ·(repeat refine all_cons ⟨_, by rfl, by rfl⟩ ?_); exact all_nil
 ·exact fun _ hb => ⟨Fr.out.on hb, Fa.out.on hb⟩
 ·exact (Below.refl _ _).drew
 ·kernel_rfl
 ·exact fun _ _ _ _ _ h => h
 ·(repeat (refine all_cons ?_ ?_; rotate_left)); exact all_nil
  ·exact coreG_held _ _ _ _ _ _ _ _ _ (by rfl) (by rfl) (wants_none) (ko 2) (fun ρ w hx _ => fieldG0 _ _ _ _ _ _ ρ w gr hx)
  ·exact coreG_held _ _ _ _ _ _ _ _ _ (by rfl) (by rfl) (wants_none) (kc 0 5) (fun ρ w hx hs => loadG0 _ _ _ _ _ _ ρ w gr _ _ _ _ _ _ _ _ _ _ _ _ _ _ _ _  hx (hs.1))
  ·exact core_pureAs _ (by rfl)
  ·exact core_pureAs _ (by rfl)
  ·exact coreG_bin _ _ _ _ _ _ _ _ _ _ _ _ _ (by rfl) (by rfl) (wants_none) (kc 3 8) (known_const _) ((fun ρ w hx hy => by simp only [execOp, hx, hy]; simp [go_sem]; exact hk))
  ·exact coreG_move _ _ _ _ _ _ _ (by rfl) (by rfl) (wants_none) (kc 4 9)
  ·exact coreG_loadP _ _ _ _ _ _ ga _ _ _ _ (by rfl) (by rfl) (wc 5 10 5 (kc 5 10)) (ko 3) (fun _ hs => hs.2)
  ·exact coreG_pure _ _ _ _ _ _ _ (by rfl) (by rfl) (wc 5 10 5 (kc 5 10)) (fun _ _ _ _ w _ => buildZ _ _ _ _ _ _ w)
  ·exact coreG_bin _ _ _ _ _ _ _ _ _ _ _ _ _ (by rfl) (by rfl) (wc 5 10 5 (kc 5 10)) (kc 6 11) (kc 7 12) (neq_run false _ _ _ _ _ _ _ _ _ _ _ _ _ _ _ He.out)
  ·exact coreG_pick _ _ _ _ _ _ _ _ _ _ _ _ (by rfl) (by rfl) (wants_none) (kc 5 10) (kc 8 13) (known_const _) (by rfl)
  ·exact coreG_move _ _ _ _ _ _ _ (by rfl) (by rfl) (wants_none) (kc 9 14)
  ·exact coreG_loadP _ _ _ _ _ _ ga _ _ _ _ (by rfl) (by rfl) (wc 10 15 10 (kc 10 15)) (ko 3) (fun _ hs => hs.2)
  ·exact coreG_held _ _ _ _ _ _ _ _ _ (by rfl) (by rfl) (wc 10 15 10 (kc 10 15)) (ko 2) (fun ρ w hx _ => fieldG0 _ _ _ _ _ _ ρ w gr hx)
  ·exact coreG_held _ _ _ _ _ _ _ _ _ (by rfl) (by rfl) (wc 10 15 10 (kc 10 15)) (kc 12 17) (fun ρ w hx hs => loadG0 _ _ _ _ _ _ ρ w gr _ _ _ _ _ _ _ _ _ _ _ _ _ _ _ _  hx (hs.1))
  ·exact core_pureAs _ (by rfl)
  ·exact coreG_bin _ _ _ _ _ _ _ _ _ _ _ _ _ (by rfl) (by rfl) (wc 10 15 10 (kc 10 15)) (kc 14 19) (known_const _) ((fun ρ w hx hy => by simp only [execOp, hx, hy]; simp [go_sem]; exact hj))
  ·exact coreG_pick _ _ _ _ _ _ _ _ _ _ _ _ (by rfl) (by rfl) (wants_none) (kc 10 15) (kc 15 20) (known_const _) (by rfl)
 ·(repeat (refine all_cons ?_ ?_; rotate_left)); exact all_nil
  ·exact sA
  ·exact sA
  ·exact fun _ => coreG_call _ 44 _ _ [] _ _ _ _ _ _ _ (by rfl) Try.func44 (by kernel_rfl) (by rfl) (by rfl) (wants_none) .nil (rone_any)
  ·exact fun _ => coreG_call _ 61 _ _ [.tmp 6, .tmp 7] _ _ _ _ _ _ _ (by rfl) Try.func61 (by kernel_rfl) (by rfl) (by rfl) (wants_none) (.cons (kc 1 6) (.cons (kc 2 7) .nil)) (Hc1.out)
  ·exact sA
  ·exact sA
  ·exact sA
  ·exact sA
  ·exact sA
  ·exact sA
  ·exact sA
  ·exact sA
  ·exact sA
  ·exact sA
  ·exact fun _ => coreG_call _ 61 _ _ [.tmp 16, .tmp 18] _ _ _ _ _ _ _ (by rfl) Try.func61 (by kernel_rfl) (by rfl) (by rfl) (wc 10 15 10 (kc 10 15)) (.cons (kc 11 16) (.cons (kc 13 18) .nil)) (Hc2.out)
  ·exact sA
  ·exact sA
 intro vs y2 hc
 have BZ := bel_tr BW.out hc.bel
 refine assign_one (i := 17) (.tmp 21) 4 _ _ _ (.bool true) (by kernel_rfl) (by rfl) (hc.at_ (of_decide_eq_true (by kernel_rfl)) (by rfl) 16 21 _ (.bool true) (by rfl) (by rfl) (by rfl)) (⟨Fr.out.on hc.bel, Fa.out.on hc.bel⟩) ?_
 refine wpAnyH_done (by kernel_rfl) ?_ _
 refine NoPanic.normal ?_
 generalize hA : Act.put (over _ _ vs) (some 4) (.bool true) = A
 have hA0 : A.tmps.getD 4 undef = .bool true := by rw [← hA]; exact put_at _ _ _ (by rw [over_size]; exact Nat.le_of_ble_eq_true rfl)
 have hAd : A.defers = [] := by rw [← hA, put_defers, over_defers]
 clear hA hc
 go_wp2_with fail
 refine bodyPost_ret (v := .bool true) (by simp [results, Try.results40, go_sem] at hA0 ⊢; simp [hA0]) hAd ⟨rfl, BZ⟩

theorem rmay8_any (P Q G H A : Nat) (hP : P < 2 ^ 256) (hA : A < 2 ^ 256) (w : World) : Calls Try.prog 40 #[grp P Q G H, num A] w fun e w' => e = .returned (.bool (mayB P A)) ∧ Below w.heap.size w w' := by
 have e := eqZ A hA
 by_cases h1 : 1 < P
 ·by_cases h0 : A = 0
  ·rw [show mayB P A = false from by simp [mayB, h0]]
   rw [decide_eq_true h0] at e
   exact rmay_2 P Q G H A _ (cmpN_pos h1) (fun w => rcmp_any P 1 hP (by decide) w) e w
  ·rw [decide_eq_false h0] at e
   by_cases h2 : A < P
   ·rw [show mayB P A = true from by simp [mayB, h0, h2]]
    exact rmay_4 P Q G H A _ _ (cmpN_pos h1) (cmpN_neg h2) (fun w => rcmp_any P 1 hP (by decide) w) (fun w => rcmp_any A P hA hP w) e w
   ·rw [show mayB P A = false from by simp only [mayB, h2, decide_false, Bool.and_false]]
    exact rmay_3 P Q G H A _ _ (cmpN_pos h1) (cmpN_ge (by omega)) (fun w => rcmp_any P 1 hP (by decide) w) (fun w => rcmp_any A P hA hP w) e w
 ·rw [show mayB P A = false from by
   rcases hb : mayB P A with _ | _
   ·rfl
   ·have := mayB_iff.mp hb; omega]
  exact rmay_1 P Q G H A _ (cmpN_le (by omega)) (fun w => rcmp_any P 1 hP (by decide) w) w
end Go.Proofs.Ytbggihkigblnfaa
