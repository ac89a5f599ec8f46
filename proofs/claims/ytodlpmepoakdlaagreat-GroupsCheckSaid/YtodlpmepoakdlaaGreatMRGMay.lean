import Derived.Deep.Cut
import Derived.Test.YtodlpmepoakdlaaGreatMRCmp
import Derived.Test.YtodlpmepoakdlaaGreatMRefE
import Derived.Test.YtodlpmepoakdlaaGreatMRng
import Derived.Test.YtodlpmepoakdlaaGreatMSmall
namespace Go.Proofs.YtodlpmepoakdlaaGreat
set_option maxRecDepth 100000
set_option maxHeartbeats 8000000
open Go.RowKit
set_option linter.unusedSimpArgs false
set_option linter.unusedVariables false
attribute [local go_sem ↓] Go.wp_at_zero Go.wp_at_succ

theorem Uh (w : World) : Calls Tryz.prog 18 #[] w fun e w' => e = .returned (num 1) ∧ Below w.heap.size w w' := by
 have HC := Jfg (fun w => Vt 1 (by decide) w)
 go_enter Tryz.func18, Tryz.ntmps18
 go_wp2_with fail
 have BW := Jfg (Below.refl w.heap.size w)
 generalize hW1 : (w.alloc (.cells #[.int .u64 0, .int .u64 0, .int .u64 0, .int .u64 0] 24)) = W1 at *
 have No : At W1 (w.heap.size) _ _ := Jb hW1 (At.at_ _ _ _ _ (by simp))
 have NB := gr_of hW1 (gr_alloc BW.out _)
 clear hW1 BW 
 obtain ⟨go, hg0⟩ : ∃ g, g = w.heap.size := ⟨_, rfl⟩
 rw [← hg0] at No ⊢
 have Eo : w.heap.size ≤ go := by omega
 clear hg0
 have Fo := Jfg No
 have BW := Jfg NB
 clear NB No
 refine (HC.out _).mono ?_
 rintro e v2 ⟨rfl, z2⟩
 have No := Jfg (Fo.out.on z2)
 have NB := Jfg (bel_tr BW.out z2)
 clear BW z2 Fo
 have Fo := No
 have BW := NB
 clear NB No
 have Lo := Fo.out.lt
 have co0 := Fo.out.c0; have co1 := Fo.out.c1; have co2 := Fo.out.c2; have co3 := Fo.out.c3
 obtain ⟨fo0, fo1, fo2, fo3⟩ := Vb Fo.out
 go_wp2_with fail
 clear Lo co0 co1 co2 co3 fo0 fo1 fo2 fo3
 generalize hW3 : ((((v2.setCell ⟨go, 0, none⟩ (.int .u64 (wd 1 0))).setCell ⟨go, 1, none⟩ (.int .u64 (wd 1 1))).setCell ⟨go, 2, none⟩ (.int .u64 (wd 1 2))).setCell ⟨go, 3, none⟩ (.int .u64 (wd 1 3))) = W3 at *
 have No := Jb hW3 ((Fo.out).put4 _ _ _ _)
 have NB := gr_of hW3 (((((BW.out).setCell Eo _).setCell Eo _).setCell Eo _).setCell Eo _)
 clear hW3 BW Fo
 have Fo := Jfg No
 have BW := Jfg NB
 clear NB No
 have Lo := Fo.out.lt
 have co0 := Fo.out.c0; have co1 := Fo.out.c1; have co2 := Fo.out.c2; have co3 := Fo.out.c3
 refine bodyPost_ret (v := num 1) (by simp [results, Tryz.results18, go_sem, *]) rfl ⟨rfl, BW.out⟩

theorem rmay_1 (P Q G H A : Nat) (k : Int)
  (hk : k ≤ 0)
  (c1 : ∀ w, Calls Tryz.prog 17 #[num P, num 1] w fun e w' => e = .returned (.int .i64 k) ∧ Below w.heap.size w w')
  (w : World) : Calls Tryz.prog 19 #[grp P Q G H, num A] w fun e w' => e = .returned (.bool false) ∧ Below w.heap.size w w' := by
 have Hc1 := Jfg c1
 clear c1
 go_enter Tryz.func19, Tryz.ntmps19
 have BW := Jfg (Below.refl w.heap.size w)
 go_upto_region 1 with fail
 generalize hW1 : ((w.alloc (.cells #[.int .u64 (wd P 0), .int .u64 (wd P 1), .int .u64 (wd P 2), .int .u64 (wd P 3), .int .u64 (wd Q 0), .int .u64 (wd Q 1), .int .u64 (wd Q 2), .int .u64 (wd Q 3), .int .u64 (wd G 0), .int .u64 (wd G 1), .int .u64 (wd G 2), .int .u64 (wd G 3), .int .u64 (wd H 0), .int .u64 (wd H 1), .int .u64 (wd H 2), .int .u64 (wd H 3)] 26)).alloc (.cells (ncs A) 24)) = W1 at *
 have Nr : At W1 (w.heap.size) _ _ := Jb hW1 ((At.at_ _ _ _ _ (by simp)).alloc _)
 have Na : At W1 (w.heap.size + 1) _ _ := Jb hW1 (At.at_ _ _ _ _ (by simp))
 have NB := gr_of hW1 (gr_alloc (gr_alloc BW.out _) _)
 clear hW1 BW 
 generalize w.heap.size + 1 = ga at *
 obtain ⟨gr, hg0⟩ : ∃ g, g = w.heap.size := ⟨_, rfl⟩
 rw [← hg0] at Nr ⊢
 clear hg0
 have Fr := Jfg Nr
 have Fa := Jfg Na
 have BW := Jfg NB
 clear NB Nr Na
 try simp only [List.append_eq, List.cons_append, List.nil_append]
 refine wp_region_noPanic ?_
 refine wp_region_held_drew (S := fun w' => At w' gr 26 #[.int .u64 (wd P 0), .int .u64 (wd P 1), .int .u64 (wd P 2), .int .u64 (wd P 3), .int .u64 (wd Q 0), .int .u64 (wd Q 1), .int .u64 (wd Q 2), .int .u64 (wd Q 3), .int .u64 (wd G 0), .int .u64 (wd G 1), .int .u64 (wd G 2), .int .u64 (wd G 3), .int .u64 (wd H 0), .int .u64 (wd H 1), .int .u64 (wd H 2), .int .u64 (wd H 3)] ∧ At w' ga 24 (ncs A)) (by kernel_rfl) (⟨Fr.out.drew, Fa.out.drew⟩) (fun _ => ?_)
 refine Jo (fuel := 1) (⟨0, 5, [], Kind.val (.pointer (some ⟨gr, 0, none⟩)), true⟩ :: ⟨1, 6, [0], Kind.val (num P), true⟩ :: ⟨2, 7, [1], Kind.val (.agg #[.int .u64 (wd 1 0), .int .u64 (wd 1 1), .int .u64 (wd 1 2), .int .u64 (wd 1 3)]), false⟩ :: ⟨3, 8, [1, 2], Kind.val (.int .i64 k), false⟩ :: ⟨4, 9, [3], Kind.val (.bool false), true⟩ :: ⟨5, 10, [4], Kind.val (.bool false), true⟩ :: ⟨6, 11, [5], Kind.val (undef), true⟩ :: ⟨7, 12, [5, 6], Kind.val (undef), true⟩ :: ⟨8, 13, [5, 6, 7], Kind.val (undef), true⟩ :: ⟨9, 14, [5, 8], Kind.val (.bool false), true⟩ :: ⟨10, 15, [9], Kind.val (.bool false), true⟩ :: ⟨11, 16, [10], Kind.val (undef), true⟩ :: ⟨12, 17, [10, 11], Kind.val (undef), true⟩ :: ⟨13, 18, [10, 12], Kind.val (undef), true⟩ :: ⟨14, 19, [10, 11, 13], Kind.val (undef), true⟩ :: ⟨15, 20, [10, 14], Kind.val (undef), true⟩ :: ⟨16, 21, [10, 15], Kind.val (.bool false), true⟩ :: []) _ _ W1 _ ?_ ?_ ?_ ?_ ?_ ?_ ?_ ?_ ?_ ?_ ?_
 ·rfl
 ·kernel_rfl
 ·exact of_decide_eq_true (by kernel_rfl)
 ·(repeat refine all_cons ⟨_, by rfl, by rfl⟩ ?_); exact Je
 ·exact fun _ hb => ⟨Fr.out.on hb, Fa.out.on hb⟩
 ·exact (Below.refl _ _).drew
 ·kernel_rfl
 ·exact fun _ _ _ _ _ h => h
 ·(repeat (refine all_cons ?_ ?_; rotate_left)); exact Je
  ·exact Kg _ _ _ _ _ _ _ _ _ (by rfl) (by rfl) (Jc) (ko 2) (fun ρ w hx _ => Jaf _ _ _ _ _ _ ρ w gr hx)
  ·exact Kg _ _ _ _ _ _ _ _ _ (by rfl) (by rfl) (Jc) (kc 0 5) (fun ρ w hx hs => Jcb _ _ _ _ _ _ ρ w gr _ _ _ _ _ _ _ _ _ _ _ _ _ _ _ _  hx (hs.1))
  ·exact Ji _ (by rfl)
  ·exact Ji _ (by rfl)
  ·exact Jv _ _ _ _ _ _ _ _ _ _ _ _ _ (by rfl) (by rfl) (Jc) (kc 3 8) (Jd _) ((fun ρ w hx hy => by simp only [execOp, hx, hy]; simp [go_sem]; exact hk))
  ·exact Kc _ _ _ _ _ _ _ (by rfl) (by rfl) (Jc) (kc 4 9)
  ·exact Jf _ _ _ _ _ _ (by rfl) (by rfl) (wc 5 10 5 (kc 5 10))
  ·exact Jf _ _ _ _ _ _ (by rfl) (by rfl) (wc 5 10 5 (kc 5 10))
  ·exact Jf _ _ _ _ _ _ (by rfl) (by rfl) (wc 5 10 5 (kc 5 10))
  ·exact Ke _ _ _ _ _ _ _ _ _ _ _ _ (by rfl) (by rfl) (Jc) (kc 5 10) (kc 8 13) (Jd _) (by rfl)
  ·exact Kc _ _ _ _ _ _ _ (by rfl) (by rfl) (Jc) (kc 9 14)
  ·exact Jf _ _ _ _ _ _ (by rfl) (by rfl) (wc 10 15 10 (kc 10 15))
  ·exact Jf _ _ _ _ _ _ (by rfl) (by rfl) (wc 10 15 10 (kc 10 15))
  ·exact Jf _ _ _ _ _ _ (by rfl) (by rfl) (wc 10 15 10 (kc 10 15))
  ·exact Jf _ _ _ _ _ _ (by rfl) (by rfl) (wc 10 15 10 (kc 10 15))
  ·exact Jf _ _ _ _ _ _ (by rfl) (by rfl) (wc 10 15 10 (kc 10 15))
  ·exact Ke _ _ _ _ _ _ _ _ _ _ _ _ (by rfl) (by rfl) (Jc) (kc 10 15) (kc 15 20) (Jd _) (by rfl)
 ·(repeat (refine all_cons ?_ ?_; rotate_left)); exact Je
  all_goals try exact sA
  ·exact fun _ => Jh _ 18 _ _ [] _ _ _ _ _ _ _ (by rfl) Tryz.func18 (by kernel_rfl) (by rfl) (by rfl) (Jc) .nil (Uh)
  ·exact fun _ => Jh _ 17 _ _ [.tmp 6, .tmp 7] _ _ _ _ _ _ _ (by rfl) Tryz.func17 (by kernel_rfl) (by rfl) (by rfl) (Jc) (.cons (kc 1 6) (.cons (kc 2 7) .nil)) (Hc1.out)
 intro vs y2 hc
 have BZ := bel_tr BW.out hc.bel
 refine Ko (i := 17) (.tmp 21) 4 _ _ _ (.bool false) (by kernel_rfl) (by rfl) (hc.at_ (of_decide_eq_true (by kernel_rfl)) (by rfl) 16 21 _ (.bool false) (by rfl) (by rfl) (by rfl)) (⟨Fr.out.on hc.bel, Fa.out.on hc.bel⟩) ?_
 refine wpAnyH_done (by kernel_rfl) ?_ _
 refine NoPanic.normal ?_
 generalize hA : Act.put (over _ _ vs) (some 4) (.bool false) = A
 have hA0 : A.tmps.getD 4 undef = .bool false := by rw [← hA]; exact Wi _ _ _ (by rw [Ua]; exact Nat.le_of_ble_eq_true rfl)
 have hAd : A.defers = [] := by rw [← hA, Uc, Kp]
 clear hA hc
 go_wp2_with fail
 refine bodyPost_ret (v := .bool false) (by simp [results, Tryz.results19, go_sem] at hA0 ⊢; simp [hA0]) hAd ⟨rfl, BZ⟩

theorem rmay_2 (P Q G H A : Nat) (k : Int)
  (hk : 0 < k)
  (c1 : ∀ w, Calls Tryz.prog 17 #[num P, num 1] w fun e w' => e = .returned (.int .i64 k) ∧ Below w.heap.size w w')
  (e : ∀ w : World, (Op.equalIn 10000 24 (num A) (.agg #[.int .u64 0, .int .u64 0, .int .u64 0, .int .u64 0])).run Tryz.prog w = .ok true w)
  (w : World) : Calls Tryz.prog 19 #[grp P Q G H, num A] w fun e w' => e = .returned (.bool false) ∧ Below w.heap.size w w' := by
 have Hc1 := Jfg c1
 have He := Jfg e
 clear c1 e
 go_enter Tryz.func19, Tryz.ntmps19
 have BW := Jfg (Below.refl w.heap.size w)
 go_upto_region 1 with fail
 generalize hW1 : ((w.alloc (.cells #[.int .u64 (wd P 0), .int .u64 (wd P 1), .int .u64 (wd P 2), .int .u64 (wd P 3), .int .u64 (wd Q 0), .int .u64 (wd Q 1), .int .u64 (wd Q 2), .int .u64 (wd Q 3), .int .u64 (wd G 0), .int .u64 (wd G 1), .int .u64 (wd G 2), .int .u64 (wd G 3), .int .u64 (wd H 0), .int .u64 (wd H 1), .int .u64 (wd H 2), .int .u64 (wd H 3)] 26)).alloc (.cells (ncs A) 24)) = W1 at *
 have Nr : At W1 (w.heap.size) _ _ := Jb hW1 ((At.at_ _ _ _ _ (by simp)).alloc _)
 have Na : At W1 (w.heap.size + 1) _ _ := Jb hW1 (At.at_ _ _ _ _ (by simp))
 have NB := gr_of hW1 (gr_alloc (gr_alloc BW.out _) _)
 clear hW1 BW 
 generalize w.heap.size + 1 = ga at *
 obtain ⟨gr, hg0⟩ : ∃ g, g = w.heap.size := ⟨_, rfl⟩
 rw [← hg0] at Nr ⊢
 clear hg0
 have Fr := Jfg Nr
 have Fa := Jfg Na
 have BW := Jfg NB
 clear NB Nr Na
 try simp only [List.append_eq, List.cons_append, List.nil_append]
 refine wp_region_noPanic ?_
 refine wp_region_held_drew (S := fun w' => At w' gr 26 #[.int .u64 (wd P 0), .int .u64 (wd P 1), .int .u64 (wd P 2), .int .u64 (wd P 3), .int .u64 (wd Q 0), .int .u64 (wd Q 1), .int .u64 (wd Q 2), .int .u64 (wd Q 3), .int .u64 (wd G 0), .int .u64 (wd G 1), .int .u64 (wd G 2), .int .u64 (wd G 3), .int .u64 (wd H 0), .int .u64 (wd H 1), .int .u64 (wd H 2), .int .u64 (wd H 3)] ∧ At w' ga 24 (ncs A)) (by kernel_rfl) (⟨Fr.out.drew, Fa.out.drew⟩) (fun _ => ?_)
 refine Jo (fuel := 1) (⟨0, 5, [], Kind.val (.pointer (some ⟨gr, 0, none⟩)), true⟩ :: ⟨1, 6, [0], Kind.val (num P), true⟩ :: ⟨2, 7, [1], Kind.val (.agg #[.int .u64 (wd 1 0), .int .u64 (wd 1 1), .int .u64 (wd 1 2), .int .u64 (wd 1 3)]), false⟩ :: ⟨3, 8, [1, 2], Kind.val (.int .i64 k), false⟩ :: ⟨4, 9, [3], Kind.val (.bool true), true⟩ :: ⟨5, 10, [4], Kind.val (.bool true), true⟩ :: ⟨6, 11, [5], Kind.val (num A), true⟩ :: ⟨7, 12, [5, 6], Kind.val (.agg #[.int .u64 0, .int .u64 0, .int .u64 0, .int .u64 0]), true⟩ :: ⟨8, 13, [5, 6, 7], Kind.val (.bool false), true⟩ :: ⟨9, 14, [5, 8], Kind.val (.bool false), true⟩ :: ⟨10, 15, [9], Kind.val (.bool false), true⟩ :: ⟨11, 16, [10], Kind.val (undef), true⟩ :: ⟨12, 17, [10, 11], Kind.val (undef), true⟩ :: ⟨13, 18, [10, 12], Kind.val (undef), true⟩ :: ⟨14, 19, [10, 11, 13], Kind.val (undef), true⟩ :: ⟨15, 20, [10, 14], Kind.val (undef), true⟩ :: ⟨16, 21, [10, 15], Kind.val (.bool false), true⟩ :: []) _ _ W1 _ ?_ ?_ ?_ ?_ ?_ ?_ ?_ ?_ ?_ ?_ ?_
 ·rfl
 ·kernel_rfl
 ·exact of_decide_eq_true (by kernel_rfl)
 ·(repeat refine all_cons ⟨_, by rfl, by rfl⟩ ?_); exact Je
 ·exact fun _ hb => ⟨Fr.out.on hb, Fa.out.on hb⟩
 ·exact (Below.refl _ _).drew
 ·kernel_rfl
 ·exact fun _ _ _ _ _ h => h
 ·(repeat (refine all_cons ?_ ?_; rotate_left)); exact Je
  ·exact Kg _ _ _ _ _ _ _ _ _ (by rfl) (by rfl) (Jc) (ko 2) (fun ρ w hx _ => Jaf _ _ _ _ _ _ ρ w gr hx)
  ·exact Kg _ _ _ _ _ _ _ _ _ (by rfl) (by rfl) (Jc) (kc 0 5) (fun ρ w hx hs => Jcb _ _ _ _ _ _ ρ w gr _ _ _ _ _ _ _ _ _ _ _ _ _ _ _ _  hx (hs.1))
  ·exact Ji _ (by rfl)
  ·exact Ji _ (by rfl)
  ·exact Jv _ _ _ _ _ _ _ _ _ _ _ _ _ (by rfl) (by rfl) (Jc) (kc 3 8) (Jd _) ((fun ρ w hx hy => by simp only [execOp, hx, hy]; simp [go_sem]; exact hk))
  ·exact Kc _ _ _ _ _ _ _ (by rfl) (by rfl) (Jc) (kc 4 9)
  ·exact Jm _ _ _ _ _ _ ga _ _ _ _ (by rfl) (by rfl) (wc 5 10 5 (kc 5 10)) (ko 3) (fun _ hs => hs.2)
  ·exact Ux _ _ _ _ _ _ _ (by rfl) (by rfl) (wc 5 10 5 (kc 5 10)) (fun _ _ _ _ w _ => Jeb _ _ _ _ _ _ w)
  ·exact Jv _ _ _ _ _ _ _ _ _ _ _ _ _ (by rfl) (by rfl) (wc 5 10 5 (kc 5 10)) (kc 6 11) (kc 7 12) (Jad true _ _ _ _ _ _ _ _ _ _ _ _ _ _ _ He.out)
  ·exact Ke _ _ _ _ _ _ _ _ _ _ _ _ (by rfl) (by rfl) (Jc) (kc 5 10) (kc 8 13) (Jd _) (by rfl)
  ·exact Kc _ _ _ _ _ _ _ (by rfl) (by rfl) (Jc) (kc 9 14)
  ·exact Jf _ _ _ _ _ _ (by rfl) (by rfl) (wc 10 15 10 (kc 10 15))
  ·exact Jf _ _ _ _ _ _ (by rfl) (by rfl) (wc 10 15 10 (kc 10 15))
  ·exact Jf _ _ _ _ _ _ (by rfl) (by rfl) (wc 10 15 10 (kc 10 15))
  ·exact Jf _ _ _ _ _ _ (by rfl) (by rfl) (wc 10 15 10 (kc 10 15))
  ·exact Jf _ _ _ _ _ _ (by rfl) (by rfl) (wc 10 15 10 (kc 10 15))
  ·exact Ke _ _ _ _ _ _ _ _ _ _ _ _ (by rfl) (by rfl) (Jc) (kc 10 15) (kc 15 20) (Jd _) (by rfl)
 ·(repeat (refine all_cons ?_ ?_; rotate_left)); exact Je
  all_goals try exact sA
  ·exact fun _ => Jh _ 18 _ _ [] _ _ _ _ _ _ _ (by rfl) Tryz.func18 (by kernel_rfl) (by rfl) (by rfl) (Jc) .nil (Uh)
  ·exact fun _ => Jh _ 17 _ _ [.tmp 6, .tmp 7] _ _ _ _ _ _ _ (by rfl) Tryz.func17 (by kernel_rfl) (by rfl) (by rfl) (Jc) (.cons (kc 1 6) (.cons (kc 2 7) .nil)) (Hc1.out)
 intro vs y2 hc
 have BZ := bel_tr BW.out hc.bel
 refine Ko (i := 17) (.tmp 21) 4 _ _ _ (.bool false) (by kernel_rfl) (by rfl) (hc.at_ (of_decide_eq_true (by kernel_rfl)) (by rfl) 16 21 _ (.bool false) (by rfl) (by rfl) (by rfl)) (⟨Fr.out.on hc.bel, Fa.out.on hc.bel⟩) ?_
 refine wpAnyH_done (by kernel_rfl) ?_ _
 refine NoPanic.normal ?_
 generalize hA : Act.put (over _ _ vs) (some 4) (.bool false) = A
 have hA0 : A.tmps.getD 4 undef = .bool false := by rw [← hA]; exact Wi _ _ _ (by rw [Ua]; exact Nat.le_of_ble_eq_true rfl)
 have hAd : A.defers = [] := by rw [← hA, Uc, Kp]
 clear hA hc
 go_wp2_with fail
 refine bodyPost_ret (v := .bool false) (by simp [results, Tryz.results19, go_sem] at hA0 ⊢; simp [hA0]) hAd ⟨rfl, BZ⟩

theorem rmay_3 (P Q G H A : Nat) (k j : Int)
  (hk : 0 < k)
  (hj : 0 ≤ j)
  (c1 : ∀ w, Calls Tryz.prog 17 #[num P, num 1] w fun e w' => e = .returned (.int .i64 k) ∧ Below w.heap.size w w')
  (c2 : ∀ w, Calls Tryz.prog 17 #[num A, num P] w fun e w' => e = .returned (.int .i64 j) ∧ Below w.heap.size w w')
  (e : ∀ w : World, (Op.equalIn 10000 24 (num A) (.agg #[.int .u64 0, .int .u64 0, .int .u64 0, .int .u64 0])).run Tryz.prog w = .ok false w)
  (w : World) : Calls Tryz.prog 19 #[grp P Q G H, num A] w fun e w' => e = .returned (.bool false) ∧ Below w.heap.size w w' := by
 have Hc1 := Jfg c1
 have Hc2 := Jfg c2
 have He := Jfg e
 clear c1 c2 e
 go_enter Tryz.func19, Tryz.ntmps19
 have BW := Jfg (Below.refl w.heap.size w)
 go_upto_region 1 with fail
 generalize hW1 : ((w.alloc (.cells #[.int .u64 (wd P 0), .int .u64 (wd P 1), .int .u64 (wd P 2), .int .u64 (wd P 3), .int .u64 (wd Q 0), .int .u64 (wd Q 1), .int .u64 (wd Q 2), .int .u64 (wd Q 3), .int .u64 (wd G 0), .int .u64 (wd G 1), .int .u64 (wd G 2), .int .u64 (wd G 3), .int .u64 (wd H 0), .int .u64 (wd H 1), .int .u64 (wd H 2), .int .u64 (wd H 3)] 26)).alloc (.cells (ncs A) 24)) = W1 at *
 have Nr : At W1 (w.heap.size) _ _ := Jb hW1 ((At.at_ _ _ _ _ (by simp)).alloc _)
 have Na : At W1 (w.heap.size + 1) _ _ := Jb hW1 (At.at_ _ _ _ _ (by simp))
 have NB := gr_of hW1 (gr_alloc (gr_alloc BW.out _) _)
 clear hW1 BW 
 generalize w.heap.size + 1 = ga at *
 obtain ⟨gr, hg0⟩ : ∃ g, g = w.heap.size := ⟨_, rfl⟩
 rw [← hg0] at Nr ⊢
 clear hg0
 have Fr := Jfg Nr
 have Fa := Jfg Na
 have BW := Jfg NB
 clear NB Nr Na
 try simp only [List.append_eq, List.cons_append, List.nil_append]
 refine wp_region_noPanic ?_
 refine wp_region_held_drew (S := fun w' => At w' gr 26 #[.int .u64 (wd P 0), .int .u64 (wd P 1), .int .u64 (wd P 2), .int .u64 (wd P 3), .int .u64 (wd Q 0), .int .u64 (wd Q 1), .int .u64 (wd Q 2), .int .u64 (wd Q 3), .int .u64 (wd G 0), .int .u64 (wd G 1), .int .u64 (wd G 2), .int .u64 (wd G 3), .int .u64 (wd H 0), .int .u64 (wd H 1), .int .u64 (wd H 2), .int .u64 (wd H 3)] ∧ At w' ga 24 (ncs A)) (by kernel_rfl) (⟨Fr.out.drew, Fa.out.drew⟩) (fun _ => ?_)
 refine Jo (fuel := 1) (⟨0, 5, [], Kind.val (.pointer (some ⟨gr, 0, none⟩)), true⟩ :: ⟨1, 6, [0], Kind.val (num P), true⟩ :: ⟨2, 7, [1], Kind.val (.agg #[.int .u64 (wd 1 0), .int .u64 (wd 1 1), .int .u64 (wd 1 2), .int .u64 (wd 1 3)]), false⟩ :: ⟨3, 8, [1, 2], Kind.val (.int .i64 k), false⟩ :: ⟨4, 9, [3], Kind.val (.bool true), true⟩ :: ⟨5, 10, [4], Kind.val (.bool true), true⟩ :: ⟨6, 11, [5], Kind.val (num A), true⟩ :: ⟨7, 12, [5, 6], Kind.val (.agg #[.int .u64 0, .int .u64 0, .int .u64 0, .int .u64 0]), true⟩ :: ⟨8, 13, [5, 6, 7], Kind.val (.bool true), true⟩ :: ⟨9, 14, [5, 8], Kind.val (.bool true), true⟩ :: ⟨10, 15, [9], Kind.val (.bool true), true⟩ :: ⟨11, 16, [10], Kind.val (num A), true⟩ :: ⟨12, 17, [10, 11], Kind.val (.pointer (some ⟨gr, 0, none⟩)), true⟩ :: ⟨13, 18, [10, 12], Kind.val (num P), true⟩ :: ⟨14, 19, [10, 11, 13], Kind.val (.int .i64 j), false⟩ :: ⟨15, 20, [10, 14], Kind.val (.bool false), true⟩ :: ⟨16, 21, [10, 15], Kind.val (.bool false), true⟩ :: []) _ _ W1 _ ?_ ?_ ?_ ?_ ?_ ?_ ?_ ?_ ?_ ?_ ?_
 ·rfl
 ·kernel_rfl
 ·exact of_decide_eq_true (by kernel_rfl)
 ·(repeat refine all_cons ⟨_, by rfl, by rfl⟩ ?_); exact Je
 ·exact fun _ hb => ⟨Fr.out.on hb, Fa.out.on hb⟩
 ·exact (Below.refl _ _).drew
 ·kernel_rfl
 ·exact fun _ _ _ _ _ h => h
 ·(repeat (refine all_cons ?_ ?_; rotate_left)); exact Je
  all_goals try exact Ji _ (by rfl)
  ·exact Kg _ _ _ _ _ _ _ _ _ (by rfl) (by rfl) (Jc) (ko 2) (fun ρ w hx _ => Jaf _ _ _ _ _ _ ρ w gr hx)
  ·exact Kg _ _ _ _ _ _ _ _ _ (by rfl) (by rfl) (Jc) (kc 0 5) (fun ρ w hx hs => Jcb _ _ _ _ _ _ ρ w gr _ _ _ _ _ _ _ _ _ _ _ _ _ _ _ _  hx (hs.1))
  ·exact Jv _ _ _ _ _ _ _ _ _ _ _ _ _ (by rfl) (by rfl) (Jc) (kc 3 8) (Jd _) ((fun ρ w hx hy => by simp only [execOp, hx, hy]; simp [go_sem]; exact hk))
  ·exact Kc _ _ _ _ _ _ _ (by rfl) (by rfl) (Jc) (kc 4 9)
  ·exact Jm _ _ _ _ _ _ ga _ _ _ _ (by rfl) (by rfl) (wc 5 10 5 (kc 5 10)) (ko 3) (fun _ hs => hs.2)
  ·exact Ux _ _ _ _ _ _ _ (by rfl) (by rfl) (wc 5 10 5 (kc 5 10)) (fun _ _ _ _ w _ => Jeb _ _ _ _ _ _ w)
  ·exact Jv _ _ _ _ _ _ _ _ _ _ _ _ _ (by rfl) (by rfl) (wc 5 10 5 (kc 5 10)) (kc 6 11) (kc 7 12) (Jad false _ _ _ _ _ _ _ _ _ _ _ _ _ _ _ He.out)
  ·exact Ke _ _ _ _ _ _ _ _ _ _ _ _ (by rfl) (by rfl) (Jc) (kc 5 10) (kc 8 13) (Jd _) (by rfl)
  ·exact Kc _ _ _ _ _ _ _ (by rfl) (by rfl) (Jc) (kc 9 14)
  ·exact Jm _ _ _ _ _ _ ga _ _ _ _ (by rfl) (by rfl) (wc 10 15 10 (kc 10 15)) (ko 3) (fun _ hs => hs.2)
  ·exact Kg _ _ _ _ _ _ _ _ _ (by rfl) (by rfl) (wc 10 15 10 (kc 10 15)) (ko 2) (fun ρ w hx _ => Jaf _ _ _ _ _ _ ρ w gr hx)
  ·exact Kg _ _ _ _ _ _ _ _ _ (by rfl) (by rfl) (wc 10 15 10 (kc 10 15)) (kc 12 17) (fun ρ w hx hs => Jcb _ _ _ _ _ _ ρ w gr _ _ _ _ _ _ _ _ _ _ _ _ _ _ _ _  hx (hs.1))
  ·exact Jv _ _ _ _ _ _ _ _ _ _ _ _ _ (by rfl) (by rfl) (wc 10 15 10 (kc 10 15)) (kc 14 19) (Jd _) ((fun ρ w hx hy => by simp only [execOp, hx, hy]; simp [go_sem]; exact hj))
  ·exact Ke _ _ _ _ _ _ _ _ _ _ _ _ (by rfl) (by rfl) (Jc) (kc 10 15) (kc 15 20) (Jd _) (by rfl)
 ·(repeat (refine all_cons ?_ ?_; rotate_left)); exact Je
  all_goals try exact sA
  ·exact fun _ => Jh _ 18 _ _ [] _ _ _ _ _ _ _ (by rfl) Tryz.func18 (by kernel_rfl) (by rfl) (by rfl) (Jc) .nil (Uh)
  ·exact fun _ => Jh _ 17 _ _ [.tmp 6, .tmp 7] _ _ _ _ _ _ _ (by rfl) Tryz.func17 (by kernel_rfl) (by rfl) (by rfl) (Jc) (.cons (kc 1 6) (.cons (kc 2 7) .nil)) (Hc1.out)
  ·exact fun _ => Jh _ 17 _ _ [.tmp 16, .tmp 18] _ _ _ _ _ _ _ (by rfl) Tryz.func17 (by kernel_rfl) (by rfl) (by rfl) (wc 10 15 10 (kc 10 15)) (.cons (kc 11 16) (.cons (kc 13 18) .nil)) (Hc2.out)
 intro vs y2 hc
 have BZ := bel_tr BW.out hc.bel
 refine Ko (i := 17) (.tmp 21) 4 _ _ _ (.bool false) (by kernel_rfl) (by rfl) (hc.at_ (of_decide_eq_true (by kernel_rfl)) (by rfl) 16 21 _ (.bool false) (by rfl) (by rfl) (by rfl)) (⟨Fr.out.on hc.bel, Fa.out.on hc.bel⟩) ?_
 refine wpAnyH_done (by kernel_rfl) ?_ _
 refine NoPanic.normal ?_
 generalize hA : Act.put (over _ _ vs) (some 4) (.bool false) = A
 have hA0 : A.tmps.getD 4 undef = .bool false := by rw [← hA]; exact Wi _ _ _ (by rw [Ua]; exact Nat.le_of_ble_eq_true rfl)
 have hAd : A.defers = [] := by rw [← hA, Uc, Kp]
 clear hA hc
 go_wp2_with fail
 refine bodyPost_ret (v := .bool false) (by simp [results, Tryz.results19, go_sem] at hA0 ⊢; simp [hA0]) hAd ⟨rfl, BZ⟩

theorem rmay_4 (P Q G H A : Nat) (k j : Int)
  (hk : 0 < k)
  (hj : j < 0)
  (c1 : ∀ w, Calls Tryz.prog 17 #[num P, num 1] w fun e w' => e = .returned (.int .i64 k) ∧ Below w.heap.size w w')
  (c2 : ∀ w, Calls Tryz.prog 17 #[num A, num P] w fun e w' => e = .returned (.int .i64 j) ∧ Below w.heap.size w w')
  (e : ∀ w : World, (Op.equalIn 10000 24 (num A) (.agg #[.int .u64 0, .int .u64 0, .int .u64 0, .int .u64 0])).run Tryz.prog w = .ok false w)
  (w : World) : Calls Tryz.prog 19 #[grp P Q G H, num A] w fun e w' => e = .returned (.bool true) ∧ Below w.heap.size w w' := by
 have Hc1 := Jfg c1
 have Hc2 := Jfg c2
 have He := Jfg e
 clear c1 c2 e
 go_enter Tryz.func19, Tryz.ntmps19
 have BW := Jfg (Below.refl w.heap.size w)
 go_upto_region 1 with fail
 generalize hW1 : ((w.alloc (.cells #[.int .u64 (wd P 0), .int .u64 (wd P 1), .int .u64 (wd P 2), .int .u64 (wd P 3), .int .u64 (wd Q 0), .int .u64 (wd Q 1), .int .u64 (wd Q 2), .int .u64 (wd Q 3), .int .u64 (wd G 0), .int .u64 (wd G 1), .int .u64 (wd G 2), .int .u64 (wd G 3), .int .u64 (wd H 0), .int .u64 (wd H 1), .int .u64 (wd H 2), .int .u64 (wd H 3)] 26)).alloc (.cells (ncs A) 24)) = W1 at *
 have Nr : At W1 (w.heap.size) _ _ := Jb hW1 ((At.at_ _ _ _ _ (by simp)).alloc _)
 have Na : At W1 (w.heap.size + 1) _ _ := Jb hW1 (At.at_ _ _ _ _ (by simp))
 have NB := gr_of hW1 (gr_alloc (gr_alloc BW.out _) _)
 clear hW1 BW 
 generalize w.heap.size + 1 = ga at *
 obtain ⟨gr, hg0⟩ : ∃ g, g = w.heap.size := ⟨_, rfl⟩
 rw [← hg0] at Nr ⊢
 clear hg0
 have Fr := Jfg Nr
 have Fa := Jfg Na
 have BW := Jfg NB
 clear NB Nr Na
 try simp only [List.append_eq, List.cons_append, List.nil_append]
 refine wp_region_noPanic ?_
 refine wp_region_held_drew (S := fun w' => At w' gr 26 #[.int .u64 (wd P 0), .int .u64 (wd P 1), .int .u64 (wd P 2), .int .u64 (wd P 3), .int .u64 (wd Q 0), .int .u64 (wd Q 1), .int .u64 (wd Q 2), .int .u64 (wd Q 3), .int .u64 (wd G 0), .int .u64 (wd G 1), .int .u64 (wd G 2), .int .u64 (wd G 3), .int .u64 (wd H 0), .int .u64 (wd H 1), .int .u64 (wd H 2), .int .u64 (wd H 3)] ∧ At w' ga 24 (ncs A)) (by kernel_rfl) (⟨Fr.out.drew, Fa.out.drew⟩) (fun _ => ?_)
 refine Jo (fuel := 1) (⟨0, 5, [], Kind.val (.pointer (some ⟨gr, 0, none⟩)), true⟩ :: ⟨1, 6, [0], Kind.val (num P), true⟩ :: ⟨2, 7, [1], Kind.val (.agg #[.int .u64 (wd 1 0), .int .u64 (wd 1 1), .int .u64 (wd 1 2), .int .u64 (wd 1 3)]), false⟩ :: ⟨3, 8, [1, 2], Kind.val (.int .i64 k), false⟩ :: ⟨4, 9, [3], Kind.val (.bool true), true⟩ :: ⟨5, 10, [4], Kind.val (.bool true), true⟩ :: ⟨6, 11, [5], Kind.val (num A), true⟩ :: ⟨7, 12, [5, 6], Kind.val (.agg #[.int .u64 0, .int .u64 0, .int .u64 0, .int .u64 0]), true⟩ :: ⟨8, 13, [5, 6, 7], Kind.val (.bool true), true⟩ :: ⟨9, 14, [5, 8], Kind.val (.bool true), true⟩ :: ⟨10, 15, [9], Kind.val (.bool true), true⟩ :: ⟨11, 16, [10], Kind.val (num A), true⟩ :: ⟨12, 17, [10, 11], Kind.val (.pointer (some ⟨gr, 0, none⟩)), true⟩ :: ⟨13, 18, [10, 12], Kind.val (num P), true⟩ :: ⟨14, 19, [10, 11, 13], Kind.val (.int .i64 j), false⟩ :: ⟨15, 20, [10, 14], Kind.val (.bool true), true⟩ :: ⟨16, 21, [10, 15], Kind.val (.bool true), true⟩ :: []) _ _ W1 _ ?_ ?_ ?_ ?_ ?_ ?_ ?_ ?_ ?_ ?_ ?_
 ·rfl
 ·kernel_rfl
 ·exact of_decide_eq_true (by kernel_rfl)
 ·(repeat refine all_cons ⟨_, by rfl, by rfl⟩ ?_); exact Je
 ·exact fun _ hb => ⟨Fr.out.on hb, Fa.out.on hb⟩
 ·exact (Below.refl _ _).drew
 ·kernel_rfl
 ·exact fun _ _ _ _ _ h => h
 ·(repeat (refine all_cons ?_ ?_; rotate_left)); exact Je
  all_goals try exact Ji _ (by rfl)
  ·exact Kg _ _ _ _ _ _ _ _ _ (by rfl) (by rfl) (Jc) (ko 2) (fun ρ w hx _ => Jaf _ _ _ _ _ _ ρ w gr hx)
  ·exact Kg _ _ _ _ _ _ _ _ _ (by rfl) (by rfl) (Jc) (kc 0 5) (fun ρ w hx hs => Jcb _ _ _ _ _ _ ρ w gr _ _ _ _ _ _ _ _ _ _ _ _ _ _ _ _  hx (hs.1))
  ·exact Jv _ _ _ _ _ _ _ _ _ _ _ _ _ (by rfl) (by rfl) (Jc) (kc 3 8) (Jd _) ((fun ρ w hx hy => by simp only [execOp, hx, hy]; simp [go_sem]; exact hk))
  ·exact Kc _ _ _ _ _ _ _ (by rfl) (by rfl) (Jc) (kc 4 9)
  ·exact Jm _ _ _ _ _ _ ga _ _ _ _ (by rfl) (by rfl) (wc 5 10 5 (kc 5 10)) (ko 3) (fun _ hs => hs.2)
  ·exact Ux _ _ _ _ _ _ _ (by rfl) (by rfl) (wc 5 10 5 (kc 5 10)) (fun _ _ _ _ w _ => Jeb _ _ _ _ _ _ w)
  ·exact Jv _ _ _ _ _ _ _ _ _ _ _ _ _ (by rfl) (by rfl) (wc 5 10 5 (kc 5 10)) (kc 6 11) (kc 7 12) (Jad false _ _ _ _ _ _ _ _ _ _ _ _ _ _ _ He.out)
  ·exact Ke _ _ _ _ _ _ _ _ _ _ _ _ (by rfl) (by rfl) (Jc) (kc 5 10) (kc 8 13) (Jd _) (by rfl)
  ·exact Kc _ _ _ _ _ _ _ (by rfl) (by rfl) (Jc) (kc 9 14)
  ·exact Jm _ _ _ _ _ _ ga _ _ _ _ (by rfl) (by rfl) (wc 10 15 10 (kc 10 15)) (ko 3) (fun _ hs => hs.2)
  ·exact Kg _ _ _ _ _ _ _ _ _ (by rfl) (by rfl) (wc 10 15 10 (kc 10 15)) (ko 2) (fun ρ w hx _ => Jaf _ _ _ _ _ _ ρ w gr hx)
  ·exact Kg _ _ _ _ _ _ _ _ _ (by rfl) (by rfl) (wc 10 15 10 (kc 10 15)) (kc 12 17) (fun ρ w hx hs => Jcb _ _ _ _ _ _ ρ w gr _ _ _ _ _ _ _ _ _ _ _ _ _ _ _ _  hx (hs.1))
  ·exact Jv _ _ _ _ _ _ _ _ _ _ _ _ _ (by rfl) (by rfl) (wc 10 15 10 (kc 10 15)) (kc 14 19) (Jd _) ((fun ρ w hx hy => by simp only [execOp, hx, hy]; simp [go_sem]; exact hj))
  ·exact Ke _ _ _ _ _ _ _ _ _ _ _ _ (by rfl) (by rfl) (Jc) (kc 10 15) (kc 15 20) (Jd _) (by rfl)
 ·(repeat (refine all_cons ?_ ?_; rotate_left)); exact Je
  all_goals try exact sA
  ·exact fun _ => Jh _ 18 _ _ [] _ _ _ _ _ _ _ (by rfl) Tryz.func18 (by kernel_rfl) (by rfl) (by rfl) (Jc) .nil (Uh)
  ·exact fun _ => Jh _ 17 _ _ [.tmp 6, .tmp 7] _ _ _ _ _ _ _ (by rfl) Tryz.func17 (by kernel_rfl) (by rfl) (by rfl) (Jc) (.cons (kc 1 6) (.cons (kc 2 7) .nil)) (Hc1.out)
  ·exact fun _ => Jh _ 17 _ _ [.tmp 16, .tmp 18] _ _ _ _ _ _ _ (by rfl) Tryz.func17 (by kernel_rfl) (by rfl) (by rfl) (wc 10 15 10 (kc 10 15)) (.cons (kc 11 16) (.cons (kc 13 18) .nil)) (Hc2.out)
 intro vs y2 hc
 have BZ := bel_tr BW.out hc.bel
 refine Ko (i := 17) (.tmp 21) 4 _ _ _ (.bool true) (by kernel_rfl) (by rfl) (hc.at_ (of_decide_eq_true (by kernel_rfl)) (by rfl) 16 21 _ (.bool true) (by rfl) (by rfl) (by rfl)) (⟨Fr.out.on hc.bel, Fa.out.on hc.bel⟩) ?_
 refine wpAnyH_done (by kernel_rfl) ?_ _
 refine NoPanic.normal ?_
 generalize hA : Act.put (over _ _ vs) (some 4) (.bool true) = A
 have hA0 : A.tmps.getD 4 undef = .bool true := by rw [← hA]; exact Wi _ _ _ (by rw [Ua]; exact Nat.le_of_ble_eq_true rfl)
 have hAd : A.defers = [] := by rw [← hA, Uc, Kp]
 clear hA hc
 go_wp2_with fail
 refine bodyPost_ret (v := .bool true) (by simp [results, Tryz.results19, go_sem] at hA0 ⊢; simp [hA0]) hAd ⟨rfl, BZ⟩

theorem Jbv (P Q G H A : Nat) (hP : P < 2 ^ 256) (hA : A < 2 ^ 256) (w : World) : Calls Tryz.prog 19 #[grp P Q G H, num A] w fun e w' => e = .returned (.bool (Jbb P A)) ∧ Below w.heap.size w w' := by
 have e := eqZ A hA
 by_cases h1 : 1 < P
 ·by_cases h0 : A = 0
  ·rw [show Jbb P A = false from by simp [Jbb, h0]]
   rw [decide_eq_true h0] at e
   exact rmay_2 P Q G H A _ (Uy h1) (fun w => Kz P 1 hP (by decide) w) e w
  ·rw [decide_eq_false h0] at e
   by_cases h2 : A < P
   ·rw [show Jbb P A = true from by simp [Jbb, h0, h2]]
    exact rmay_4 P Q G H A _ _ (Uy h1) (Vq h2) (fun w => Kz P 1 hP (by decide) w) (fun w => Kz A P hA hP w) e w
   ·rw [show Jbb P A = false from by simp only [Jbb, h2, decide_false, Bool.and_false]]
    exact rmay_3 P Q G H A _ _ (Uy h1) (Jdt (by omega)) (fun w => Kz P 1 hP (by decide) w) (fun w => Kz A P hA hP w) e w
 ·rw [show Jbb P A = false from by
   rcases hb : Jbb P A with _ | _
   ·rfl
   ·have := mayB_iff.mp hb; omega]
  exact rmay_1 P Q G H A _ (Jcz (by omega)) (fun w => Kz P 1 hP (by decide) w) w
end Go.Proofs.YtodlpmepoakdlaaGreat
