import Derived.Deep.Cut
import Derived.Test.YtodlpmepoakdlaaGreatMGIn
import Derived.Test.YtodlpmepoakdlaaGreatMPowIn
import Derived.Test.YtodlpmepoakdlaaGreatMRDiv
import Derived.Test.YtodlpmepoakdlaaGreatMRGMay
import Derived.Test.YtodlpmepoakdlaaGreatMRefE
import Derived.Test.YtodlpmepoakdlaaGreatMSmall
namespace Go.Proofs.YtodlpmepoakdlaaGreat
set_option maxRecDepth 100000
set_option maxHeartbeats 8000000
open Go.RowKit
set_option linter.unusedSimpArgs false
set_option linter.unusedVariables false
attribute [local go_sem ↓] Go.wp_at_zero Go.wp_at_succ

theorem r8in_no (P Q G H A : Nat)
  (c1 : ∀ w, Calls Tryz.prog 19 #[grp P Q G H, num A] w fun e w' => e = .returned (.bool false) ∧ Below w.heap.size w w')
  (w : World) : Calls Tryz.prog 34 #[grp P Q G H, num A] w fun e w' => e = .returned (.bool false) ∧ Below w.heap.size w w' := by
 have Hc1 := Jfg c1
 clear c1
 go_enter Tryz.func34, Tryz.ntmps34
 go_wp2_with fail
 have BW := Jfg (Below.refl w.heap.size w)
 generalize hW1 : ((w.alloc (.cells #[.int .u64 (wd P 0), .int .u64 (wd P 1), .int .u64 (wd P 2), .int .u64 (wd P 3), .int .u64 (wd Q 0), .int .u64 (wd Q 1), .int .u64 (wd Q 2), .int .u64 (wd Q 3), .int .u64 (wd G 0), .int .u64 (wd G 1), .int .u64 (wd G 2), .int .u64 (wd G 3), .int .u64 (wd H 0), .int .u64 (wd H 1), .int .u64 (wd H 2), .int .u64 (wd H 3)] 26)).alloc (.cells (ncs A) 24)) = W1 at *
 have Nr : At W1 (w.heap.size) _ _ := Jb hW1 ((At.at_ _ _ _ _ (by simp)).alloc _)
 have Na : At W1 (w.heap.size + 1) _ _ := Jb hW1 (At.at_ _ _ _ _ (by simp))
 have NB := gr_of hW1 (gr_alloc (gr_alloc BW.out _) _)
 clear hW1 BW 
 generalize w.heap.size + 1 = ga at *
 obtain ⟨gr, hg0⟩ : ∃ g, g = w.heap.size := ⟨_, rfl⟩
 rw [← hg0] at Nr ⊢
 clear hg0
 have Fr := Jfg Nr
 have Fa := Jfg Na
 have BW := Jfg NB
 clear NB Nr Na
 refine (Hc1.out _).mono ?_
 rintro e v2 ⟨rfl, z2⟩
 have Nr := Jfg (Fr.out.on z2)
 have Na := Jfg (Fa.out.on z2)
 have NB := Jfg (bel_tr BW.out z2)
 clear BW z2 Fr Fa
 have Fr := Nr
 have Fa := Na
 have BW := NB
 clear NB Nr Na
 go_wp2
 go_ret
 exact ⟨rfl, BW.out⟩

theorem r8in_true (P Q G H A X : Nat)
  (c1 : ∀ w, Calls Tryz.prog 19 #[grp P Q G H, num A] w fun e w' => e = .returned (.bool true) ∧ Below w.heap.size w w')
  (c3 : ∀ w, Calls Tryz.prog 20 #[num A, num Q, num P] w fun e w' => e = .returned (.tuple #[num X, .int .i64 0]) ∧ Below w.heap.size w w')
  (e : ∀ w : World, (Op.equalIn 10000 24 (num X) (num 1)).run Tryz.prog w = .ok true w)
  (w : World) : Calls Tryz.prog 34 #[grp P Q G H, num A] w fun e w' => e = .returned (.bool true) ∧ Below w.heap.size w w' := by
 have Hc1 := Jfg c1
 have Hc3 := Jfg c3
 have He := Jfg e
 clear c1 c3 e
 go_enter Tryz.func34, Tryz.ntmps34
 go_wp2_with fail
 have BW := Jfg (Below.refl w.heap.size w)
 generalize hW1 : ((w.alloc (.cells #[.int .u64 (wd P 0), .int .u64 (wd P 1), .int .u64 (wd P 2), .int .u64 (wd P 3), .int .u64 (wd Q 0), .int .u64 (wd Q 1), .int .u64 (wd Q 2), .int .u64 (wd Q 3), .int .u64 (wd G 0), .int .u64 (wd G 1), .int .u64 (wd G 2), .int .u64 (wd G 3), .int .u64 (wd H 0), .int .u64 (wd H 1), .int .u64 (wd H 2), .int .u64 (wd H 3)] 26)).alloc (.cells (ncs A) 24)) = W1 at *
 have Nr : At W1 (w.heap.size) _ _ := Jb hW1 ((At.at_ _ _ _ _ (by simp)).alloc _)
 have Na : At W1 (w.heap.size + 1) _ _ := Jb hW1 (At.at_ _ _ _ _ (by simp))
 have NB := gr_of hW1 (gr_alloc (gr_alloc BW.out _) _)
 clear hW1 BW 
 generalize w.heap.size + 1 = ga at *
 obtain ⟨gr, hg0⟩ : ∃ g, g = w.heap.size := ⟨_, rfl⟩
 rw [← hg0] at Nr ⊢
 clear hg0
 have Fr := Jfg Nr
 have Fa := Jfg Na
 have BW := Jfg NB
 clear NB Nr Na
 refine (Hc1.out _).mono ?_
 rintro e v2 ⟨rfl, z2⟩
 have Nr := Jfg (Fr.out.on z2)
 have Na := Jfg (Fa.out.on z2)
 have NB := Jfg (bel_tr BW.out z2)
 clear BW z2 Fr Fa
 have Fr := Nr
 have Fa := Na
 have BW := NB
 clear NB Nr Na
 have Lr := Fr.out.lt
 have cr0 : v2.cell? ⟨gr, 0, none⟩ = some (.int .u64 (wd P 0 : Nat)) := Fr.out.cell 0
 have cr1 : v2.cell? ⟨gr, 1, none⟩ = some (.int .u64 (wd P 1 : Nat)) := Fr.out.cell 1
 have cr2 : v2.cell? ⟨gr, 2, none⟩ = some (.int .u64 (wd P 2 : Nat)) := Fr.out.cell 2
 have cr3 : v2.cell? ⟨gr, 3, none⟩ = some (.int .u64 (wd P 3 : Nat)) := Fr.out.cell 3
 have cr4 : v2.cell? ⟨gr, 4, none⟩ = some (.int .u64 (wd Q 0 : Nat)) := Fr.out.cell 4
 have cr5 : v2.cell? ⟨gr, 5, none⟩ = some (.int .u64 (wd Q 1 : Nat)) := Fr.out.cell 5
 have cr6 : v2.cell? ⟨gr, 6, none⟩ = some (.int .u64 (wd Q 2 : Nat)) := Fr.out.cell 6
 have cr7 : v2.cell? ⟨gr, 7, none⟩ = some (.int .u64 (wd Q 3 : Nat)) := Fr.out.cell 7
 have cr8 : v2.cell? ⟨gr, 8, none⟩ = some (.int .u64 (wd G 0 : Nat)) := Fr.out.cell 8
 have cr9 : v2.cell? ⟨gr, 9, none⟩ = some (.int .u64 (wd G 1)) := Fr.out.cell 9
 have cr10 : v2.cell? ⟨gr, 10, none⟩ = some (.int .u64 (wd G 2)) := Fr.out.cell 10
 have cr11 : v2.cell? ⟨gr, 11, none⟩ = some (.int .u64 (wd G 3)) := Fr.out.cell 11
 have cr12 : v2.cell? ⟨gr, 12, none⟩ = some (.int .u64 (wd H 0)) := Fr.out.cell 12
 have cr13 : v2.cell? ⟨gr, 13, none⟩ = some (.int .u64 (wd H 1)) := Fr.out.cell 13
 have cr14 : v2.cell? ⟨gr, 14, none⟩ = some (.int .u64 (wd H 2)) := Fr.out.cell 14
 have cr15 : v2.cell? ⟨gr, 15, none⟩ = some (.int .u64 (wd H 3)) := Fr.out.cell 15
 have La := Fa.out.lt
 have ca0 := Fa.out.c0; have ca1 := Fa.out.c1; have ca2 := Fa.out.c2; have ca3 := Fa.out.c3
 go_wp2_with fail
 clear Lr cr0 cr1 cr2 cr3 cr4 cr5 cr6 cr7 cr8 cr9 cr10 cr11 cr12 cr13 cr14 cr15 La ca0 ca1 ca2 ca3
 refine (Hc3.out _).mono ?_
 rintro e v3 ⟨rfl, z3⟩
 have Nr := Jfg (Fr.out.on z3)
 have Na := Jfg (Fa.out.on z3)
 have NB := Jfg (bel_tr BW.out z3)
 clear BW z3 Fr Fa
 have Fr := Nr
 have Fa := Na
 have BW := NB
 clear NB Nr Na
 go_upto_region 4 with fail
 generalize hW4 : (v3.alloc (.cells (ncs X) 24)) = W4 at *
 have Nx : At W4 (v3.heap.size) _ _ := Jb hW4 (At.at_ _ _ _ _ (by simp))
 have Nr := Jb hW4 (Fr.out.alloc _)
 have Na := Jb hW4 (Fa.out.alloc _)
 have NB := gr_of hW4 (gr_alloc BW.out _)
 clear hW4 BW Fr Fa
 generalize v3.heap.size = gx at *
 have Fr := Jfg Nr
 have Fa := Jfg Na
 have Fx := Jfg Nx
 have BW := Jfg NB
 clear NB Nr Na Nx
 try simp only [List.append_eq, List.cons_append, List.nil_append]
 refine wp_region_noPanic ?_
 refine wp_region_held_drew (S := fun w' => At w' gx 24 (ncs X)) (by kernel_rfl) (Fx.out.drew) (fun _ => ?_)
 refine Jo (fuel := 1) (⟨0, 20, [], Kind.val (num X), true⟩ :: ⟨1, 21, [0], Kind.val (.agg #[.int .u64 (wd 1 0), .int .u64 (wd 1 1), .int .u64 (wd 1 2), .int .u64 (wd 1 3)]), false⟩ :: ⟨2, 22, [0, 1], Kind.val (.bool true), true⟩ :: []) _ _ W4 _ ?_ ?_ ?_ ?_ ?_ ?_ ?_ ?_ ?_ ?_ ?_
 ·rfl
 ·kernel_rfl
 ·exact of_decide_eq_true (by kernel_rfl)
 ·(repeat refine all_cons ⟨_, by rfl, by rfl⟩ ?_); exact Je
 ·exact fun _ hb => Fx.out.on hb
 ·exact (Below.refl _ _).drew
 ·kernel_rfl
 ·exact fun _ _ _ _ _ h => h
 ·(repeat (refine all_cons ?_ ?_; rotate_left)); exact Je
  ·exact Jm _ _ _ _ _ _ gx _ _ _ _ (by rfl) (by rfl) (Jc) (ko 5) (fun _ hs => hs)
  ·exact Ji _ (by rfl)
  ·exact Jv _ _ _ _ _ _ _ _ _ _ _ _ _ (by rfl) (by rfl) (Jc) (kc 0 20) (kc 1 21) (Xm true _ _ _ _ _ _ _ _ _ _ _ _ _ _ _ He.out)
 ·(repeat (refine all_cons ?_ ?_; rotate_left)); exact Je
  ·exact sA
  ·exact fun _ => Jh _ 18 _ _ [] _ _ _ _ _ _ _ (by rfl) Tryz.func18 (by kernel_rfl) (by rfl) (by rfl) (Jc) .nil (Uh)
  ·exact sA
 intro vs y5 hc
 have BZ := bel_tr BW.out hc.bel
 refine Ko (i := 3) (.tmp 22) 4 _ _ _ (.bool true) (by kernel_rfl) (by rfl) (hc.at_ (of_decide_eq_true (by kernel_rfl)) (by rfl) 2 22 _ (.bool true) (by rfl) (by rfl) (by rfl)) (Fx.out.on hc.bel) ?_
 refine wpAnyH_done (by kernel_rfl) ?_ _
 refine NoPanic.normal ?_
 generalize hA : Act.put (over _ _ vs) (some 4) (.bool true) = A
 have hA0 : A.tmps.getD 4 undef = .bool true := by rw [← hA]; exact Wi _ _ _ (by rw [Ua]; exact Nat.le_of_ble_eq_true rfl)
 have hAd : A.defers = [] := by rw [← hA, Uc, Kp]
 clear hA hc
 go_wp2_with fail
 refine bodyPost_ret (v := .bool true) (by simp [results, Tryz.results34, go_sem] at hA0 ⊢; simp [hA0]) hAd ⟨rfl, BZ⟩

theorem r8in_false (P Q G H A X : Nat)
  (c1 : ∀ w, Calls Tryz.prog 19 #[grp P Q G H, num A] w fun e w' => e = .returned (.bool true) ∧ Below w.heap.size w w')
  (c3 : ∀ w, Calls Tryz.prog 20 #[num A, num Q, num P] w fun e w' => e = .returned (.tuple #[num X, .int .i64 0]) ∧ Below w.heap.size w w')
  (e : ∀ w : World, (Op.equalIn 10000 24 (num X) (num 1)).run Tryz.prog w = .ok false w)
  (w : World) : Calls Tryz.prog 34 #[grp P Q G H, num A] w fun e w' => e = .returned (.bool false) ∧ Below w.heap.size w w' := by
 have Hc1 := Jfg c1
 have Hc3 := Jfg c3
 have He := Jfg e
 clear c1 c3 e
 go_enter Tryz.func34, Tryz.ntmps34
 go_wp2_with fail
 have BW := Jfg (Below.refl w.heap.size w)
 generalize hW1 : ((w.alloc (.cells #[.int .u64 (wd P 0), .int .u64 (wd P 1), .int .u64 (wd P 2), .int .u64 (wd P 3), .int .u64 (wd Q 0), .int .u64 (wd Q 1), .int .u64 (wd Q 2), .int .u64 (wd Q 3), .int .u64 (wd G 0), .int .u64 (wd G 1), .int .u64 (wd G 2), .int .u64 (wd G 3), .int .u64 (wd H 0), .int .u64 (wd H 1), .int .u64 (wd H 2), .int .u64 (wd H 3)] 26)).alloc (.cells (ncs A) 24)) = W1 at *
 have Nr : At W1 (w.heap.size) _ _ := Jb hW1 ((At.at_ _ _ _ _ (by simp)).alloc _)
 have Na : At W1 (w.heap.size + 1) _ _ := Jb hW1 (At.at_ _ _ _ _ (by simp))
 have NB := gr_of hW1 (gr_alloc (gr_alloc BW.out _) _)
 clear hW1 BW 
 generalize w.heap.size + 1 = ga at *
 obtain ⟨gr, hg0⟩ : ∃ g, g = w.heap.size := ⟨_, rfl⟩
 rw [← hg0] at Nr ⊢
 clear hg0
 have Fr := Jfg Nr
 have Fa := Jfg Na
 have BW := Jfg NB
 clear NB Nr Na
 refine (Hc1.out _).mono ?_
 rintro e v2 ⟨rfl, z2⟩
 have Nr := Jfg (Fr.out.on z2)
 have Na := Jfg (Fa.out.on z2)
 have NB := Jfg (bel_tr BW.out z2)
 clear BW z2 Fr Fa
 have Fr := Nr
 have Fa := Na
 have BW := NB
 clear NB Nr Na
 have Lr := Fr.out.lt
 have cr0 : v2.cell? ⟨gr, 0, none⟩ = some (.int .u64 (wd P 0 : Nat)) := Fr.out.cell 0
 have cr1 : v2.cell? ⟨gr, 1, none⟩ = some (.int .u64 (wd P 1 : Nat)) := Fr.out.cell 1
 have cr2 : v2.cell? ⟨gr, 2, none⟩ = some (.int .u64 (wd P 2 : Nat)) := Fr.out.cell 2
 have cr3 : v2.cell? ⟨gr, 3, none⟩ = some (.int .u64 (wd P 3 : Nat)) := Fr.out.cell 3
 have cr4 : v2.cell? ⟨gr, 4, none⟩ = some (.int .u64 (wd Q 0 : Nat)) := Fr.out.cell 4
 have cr5 : v2.cell? ⟨gr, 5, none⟩ = some (.int .u64 (wd Q 1 : Nat)) := Fr.out.cell 5
 have cr6 : v2.cell? ⟨gr, 6, none⟩ = some (.int .u64 (wd Q 2 : Nat)) := Fr.out.cell 6
 have cr7 : v2.cell? ⟨gr, 7, none⟩ = some (.int .u64 (wd Q 3 : Nat)) := Fr.out.cell 7
 have cr8 : v2.cell? ⟨gr, 8, none⟩ = some (.int .u64 (wd G 0 : Nat)) := Fr.out.cell 8
 have cr9 : v2.cell? ⟨gr, 9, none⟩ = some (.int .u64 (wd G 1)) := Fr.out.cell 9
 have cr10 : v2.cell? ⟨gr, 10, none⟩ = some (.int .u64 (wd G 2)) := Fr.out.cell 10
 have cr11 : v2.cell? ⟨gr, 11, none⟩ = some (.int .u64 (wd G 3)) := Fr.out.cell 11
 have cr12 : v2.cell? ⟨gr, 12, none⟩ = some (.int .u64 (wd H 0)) := Fr.out.cell 12
 have cr13 : v2.cell? ⟨gr, 13, none⟩ = some (.int .u64 (wd H 1)) := Fr.out.cell 13
 have cr14 : v2.cell? ⟨gr, 14, none⟩ = some (.int .u64 (wd H 2)) := Fr.out.cell 14
 have cr15 : v2.cell? ⟨gr, 15, none⟩ = some (.int .u64 (wd H 3)) := Fr.out.cell 15
 have La := Fa.out.lt
 have ca0 := Fa.out.c0; have ca1 := Fa.out.c1; have ca2 := Fa.out.c2; have ca3 := Fa.out.c3
 go_wp2_with fail
 clear Lr cr0 cr1 cr2 cr3 cr4 cr5 cr6 cr7 cr8 cr9 cr10 cr11 cr12 cr13 cr14 cr15 La ca0 ca1 ca2 ca3
 refine (Hc3.out _).mono ?_
 rintro e v3 ⟨rfl, z3⟩
 have Nr := Jfg (Fr.out.on z3)
 have Na := Jfg (Fa.out.on z3)
 have NB := Jfg (bel_tr BW.out z3)
 clear BW z3 Fr Fa
 have Fr := Nr
 have Fa := Na
 have BW := NB
 clear NB Nr Na
 go_upto_region 4 with fail
 generalize hW4 : (v3.alloc (.cells (ncs X) 24)) = W4 at *
 have Nx : At W4 (v3.heap.size) _ _ := Jb hW4 (At.at_ _ _ _ _ (by simp))
 have Nr := Jb hW4 (Fr.out.alloc _)
 have Na := Jb hW4 (Fa.out.alloc _)
 have NB := gr_of hW4 (gr_alloc BW.out _)
 clear hW4 BW Fr Fa
 generalize v3.heap.size = gx at *
 have Fr := Jfg Nr
 have Fa := Jfg Na
 have Fx := Jfg Nx
 have BW := Jfg NB
 clear NB Nr Na Nx
 try simp only [List.append_eq, List.cons_append, List.nil_append]
 refine wp_region_noPanic ?_
 refine wp_region_held_drew (S := fun w' => At w' gx 24 (ncs X)) (by kernel_rfl) (Fx.out.drew) (fun _ => ?_)
 refine Jo (fuel := 1) (⟨0, 20, [], Kind.val (num X), true⟩ :: ⟨1, 21, [0], Kind.val (.agg #[.int .u64 (wd 1 0), .int .u64 (wd 1 1), .int .u64 (wd 1 2), .int .u64 (wd 1 3)]), false⟩ :: ⟨2, 22, [0, 1], Kind.val (.bool false), true⟩ :: []) _ _ W4 _ ?_ ?_ ?_ ?_ ?_ ?_ ?_ ?_ ?_ ?_ ?_
 ·rfl
 ·kernel_rfl
 ·exact of_decide_eq_true (by kernel_rfl)
 ·(repeat refine all_cons ⟨_, by rfl, by rfl⟩ ?_); exact Je
 ·exact fun _ hb => Fx.out.on hb
 ·exact (Below.refl _ _).drew
 ·kernel_rfl
 ·exact fun _ _ _ _ _ h => h
 ·(repeat (refine all_cons ?_ ?_; rotate_left)); exact Je
  ·exact Jm _ _ _ _ _ _ gx _ _ _ _ (by rfl) (by rfl) (Jc) (ko 5) (fun _ hs => hs)
  ·exact Ji _ (by rfl)
  ·exact Jv _ _ _ _ _ _ _ _ _ _ _ _ _ (by rfl) (by rfl) (Jc) (kc 0 20) (kc 1 21) (Xm false _ _ _ _ _ _ _ _ _ _ _ _ _ _ _ He.out)
 ·(repeat (refine all_cons ?_ ?_; rotate_left)); exact Je
  ·exact sA
  ·exact fun _ => Jh _ 18 _ _ [] _ _ _ _ _ _ _ (by rfl) Tryz.func18 (by kernel_rfl) (by rfl) (by rfl) (Jc) .nil (Uh)
  ·exact sA
 intro vs y5 hc
 have BZ := bel_tr BW.out hc.bel
 refine Ko (i := 3) (.tmp 22) 4 _ _ _ (.bool false) (by kernel_rfl) (by rfl) (hc.at_ (of_decide_eq_true (by kernel_rfl)) (by rfl) 2 22 _ (.bool false) (by rfl) (by rfl) (by rfl)) (Fx.out.on hc.bel) ?_
 refine wpAnyH_done (by kernel_rfl) ?_ _
 refine NoPanic.normal ?_
 generalize hA : Act.put (over _ _ vs) (some 4) (.bool false) = A
 have hA0 : A.tmps.getD 4 undef = .bool false := by rw [← hA]; exact Wi _ _ _ (by rw [Ua]; exact Nat.le_of_ble_eq_true rfl)
 have hAd : A.defers = [] := by rw [← hA, Uc, Kp]
 clear hA hc
 go_wp2_with fail
 refine bodyPost_ret (v := .bool false) (by simp [results, Tryz.results34, go_sem] at hA0 ⊢; simp [hA0]) hAd ⟨rfl, BZ⟩

theorem r8in_any (P Q G H A : Nat) (hP : P < 2 ^ 256) (hQ : Q < 2 ^ 256) (hA : A < 2 ^ 256) (w : World) : Calls Tryz.prog 34 #[grp P Q G H, num A] w fun e w' => e = .returned (.bool (inB P Q A)) ∧ Below w.heap.size w w' := by
 rcases hm : Jbb P A with _ | _
 ·rw [show inB P Q A = false from by simp [inB, hm]]
  exact r8in_no P Q G H A (fun w => hm ▸ Jbv P Q G H A hP hA w) w
 ·obtain ⟨h0, h1⟩ := mayB_iff.mp hm
  have hX : A ^ Q % P < 2 ^ 256 := Nat.lt_trans (Nat.mod_lt _ (by omega)) hP
  have CM := fun w => hm ▸ Jbv P Q G H A hP hA w
  have CE := Jeg A Q P hP hQ (by omega) h1
  by_cases h1 : A ^ Q % P = 1
  ·rw [show inB P Q A = true from by simp [inB, hm, h1]]
   exact r8in_true P Q G H A _ CM CE (fun w => by rw [eqN _ 1 hX (by decide), decide_eq_true h1]) w
  ·rw [show inB P Q A = false from by simp [inB, hm, h1]]
   exact r8in_false P Q G H A _ CM CE (fun w => by rw [eqN _ 1 hX (by decide), decide_eq_false h1]) w
end Go.Proofs.YtodlpmepoakdlaaGreat
