/-
 balefireref03.Div: bit by bit; of one word at once.
-/
import Derived.Test.YtodlpmepoakdlaaMCell
import Derived.Test.YtodlpmepoakdlaaMRWord
import Derived.Test.YtodlpmepoakdlaaMTree
namespace Go.Proofs.Ytodlpmepoakdlaa
set_option maxRecDepth 100000
open Go.RowKit
set_option linter.unusedSimpArgs false
set_option linter.unusedVariables false
attribute [local go_sem ↓] Go.wp_at_zero Go.wp_at_succ

set_option maxRecDepth 100000 in
set_option maxHeartbeats 8000000 in
theorem rdiv_w (A B V R0 : Nat) (EQ : ∀ w, (Op.equalIn 10000 24 (num B) (.agg #[.int .u64 0, .int .u64 0, .int .u64 0, .int .u64 0])).run Try.prog w = .ok false w) (b0 : wd B 0 ≠ 0) (hV : V = wd A 0 / wd B 0) (hR0 : R0 = wd A 0 % wd B 0) (vl : V < 18446744073709551616) (rl : R0 < 18446744073709551616)
  (WA : ∀ w, Calls Try.prog 65 #[num A] w fun e w' => e = .returned (.bool true) ∧ Below w.heap.size w w')
  (WB : ∀ w, Calls Try.prog 65 #[num B] w fun e w' => e = .returned (.bool true) ∧ Below w.heap.size w w')
  (O1 : ∀ w, Calls Try.prog 46 #[.int .u64 (V : Nat)] w fun e w' => e = .returned (num V) ∧ Below w.heap.size w w')
  (O2 : ∀ w, Calls Try.prog 46 #[.int .u64 (R0 : Nat)] w fun e w' => e = .returned (num R0) ∧ Below w.heap.size w w')
  (w : World) : Calls Try.prog 45 #[num A, num B] w fun e w' => e = .returned (.tuple #[num V, num R0, .int .i64 0]) ∧ Below w.heap.size w w' := by
 have HWA := Lib.hid WA
 have HWB := Lib.hid WB
 have HO1 := Lib.hid O1
 have HO2 := Lib.hid O2
 clear WA WB O1 O2
 go_enter Try.func45, Try.ntmps45
 go_wp2_with (simp only [EQ])
 clear EQ
 have BW := Lib.hid (Below.refl w.heap.size w)
 generalize hW1 : ((((w.alloc (.cells #[.int .u64 (wd A 0 : Nat), .int .u64 (wd A 1 : Nat), .int .u64 (wd A 2 : Nat), .int .u64 (wd A 3 : Nat)] 24)).alloc (.cells #[.int .u64 (wd B 0 : Nat), .int .u64 (wd B 1 : Nat), .int .u64 (wd B 2 : Nat), .int .u64 (wd B 3 : Nat)] 24)).alloc (.cells #[.int .u64 0, .int .u64 0, .int .u64 0, .int .u64 0] 24)).alloc (.cells #[.int .u64 0, .int .u64 0, .int .u64 0, .int .u64 0] 24)) = W1 at *
 have Na : At W1 (w.heap.size) _ _ := at_of hW1 ((((At.at_ _ _ _ _ (by simp)).alloc _).alloc _).alloc _)
 have Nb : At W1 (w.heap.size + 1) _ _ := at_of hW1 (((At.at_ _ _ _ _ (by simp)).alloc _).alloc _)
 have Nq : At W1 (w.heap.size + 1 + 1) _ _ := at_of hW1 ((At.at_ _ _ _ _ (by simp)).alloc _)
 have Eq : w.heap.size ≤ w.heap.size + 1 + 1 := by have := BW.out.size; omega
 have Daq : w.heap.size ≠ w.heap.size + 1 + 1 := by omega
 have Dbq : w.heap.size + 1 ≠ w.heap.size + 1 + 1 := by omega
 have Nr : At W1 (w.heap.size + 1 + 1 + 1) _ _ := at_of hW1 (At.at_ _ _ _ _ (by simp))
 have Er : w.heap.size ≤ w.heap.size + 1 + 1 + 1 := by have := BW.out.size; omega
 have Dar : w.heap.size ≠ w.heap.size + 1 + 1 + 1 := by omega
 have Dbr : w.heap.size + 1 ≠ w.heap.size + 1 + 1 + 1 := by omega
 have Dqr : w.heap.size + 1 + 1 ≠ w.heap.size + 1 + 1 + 1 := by omega
 have NB := gr_of hW1 (gr_alloc (gr_alloc (gr_alloc (gr_alloc BW.out _) _) _) _)
 clear BW
 clear hW1
 generalize w.heap.size + 1 + 1 + 1 = gr at *
 generalize w.heap.size + 1 + 1 = gq at *
 generalize w.heap.size + 1 = gb at *
 obtain ⟨ga, hg0⟩ : ∃ g, g = w.heap.size := ⟨_, rfl⟩
 rw [← hg0] at Na ⊢
 rw [← hg0] at Daq Dar
 clear hg0
 have Fa := Lib.hid Na
 have Fb := Lib.hid Nb
 have Fq := Lib.hid Nq
 have Fr := Lib.hid Nr
 have BW := Lib.hid NB
 clear NB Na Nb Nq Nr
 refine (HWA.out _).mono ?_
 rintro e v2 ⟨rfl, z2⟩
 have Na := Lib.hid (Fa.out.on z2)
 have Nb := Lib.hid (Fb.out.on z2)
 have Nq := Lib.hid (Fq.out.on z2)
 have Nr := Lib.hid (Fr.out.on z2)
 have NB := Lib.hid (bel_tr BW.out z2)
 clear BW z2 Fa Fb Fq Fr
 have Fa := Na
 have Fb := Nb
 have Fq := Nq
 have Fr := Nr
 have BW := NB
 clear NB Na Nb Nq Nr
 have Lb := Fb.out.lt
 have cb0 := Fb.out.c0
 have cb1 := Fb.out.c1
 have cb2 := Fb.out.c2
 have cb3 := Fb.out.c3
 go_wp2_with fail
 clear Lb cb0 cb1 cb2 cb3
 refine (HWB.out _).mono ?_
 rintro e v3 ⟨rfl, z3⟩
 have Na := Lib.hid (Fa.out.on z3)
 have Nb := Lib.hid (Fb.out.on z3)
 have Nq := Lib.hid (Fq.out.on z3)
 have Nr := Lib.hid (Fr.out.on z3)
 have NB := Lib.hid (bel_tr BW.out z3)
 clear BW z3 Fa Fb Fq Fr
 have Fa := Na
 have Fb := Nb
 have Fq := Nq
 have Fr := Nr
 have BW := NB
 clear NB Na Nb Nq Nr
 go_wp2_with fail
 try simp only [List.append_eq, List.cons_append, List.nil_append]
 refine wp_region_noPanic ?_
 refine wp_region_held_drew (S := fun w' => At w' ga 24 #[.int .u64 (wd A 0 : Nat), .int .u64 (wd A 1 : Nat), .int .u64 (wd A 2 : Nat), .int .u64 (wd A 3 : Nat)] ∧ At w' gb 24 #[.int .u64 (wd B 0 : Nat), .int .u64 (wd B 1 : Nat), .int .u64 (wd B 2 : Nat), .int .u64 (wd B 3 : Nat)]) (by kernel_rfl) (⟨Fa.out.drew, Fb.out.drew⟩) (fun _ => ?_)
 refine wpAnyH_cores (fuel := 3) (⟨0, 23, [], Kind.val (.pointer (some ⟨ga, 0, none⟩)), true⟩ :: ⟨1, 24, [0], Kind.val (.int .u64 (wd A 0 : Nat)), true⟩ :: ⟨2, 25, [], Kind.val (.pointer (some ⟨gb, 0, none⟩)), true⟩ :: ⟨3, 26, [2], Kind.val (.int .u64 (wd B 0 : Nat)), true⟩ :: ⟨4, 27, [1, 3], Kind.val (.int .u64 (V : Nat)), true⟩ :: ⟨5, 28, [4], Kind.val (.agg #[.int .u64 (wd V 0 : Nat), .int .u64 (wd V 1 : Nat), .int .u64 (wd V 2 : Nat), .int .u64 (wd V 3 : Nat)]), false⟩ :: ⟨6, 29, [], Kind.val (.pointer (some ⟨ga, 0, none⟩)), true⟩ :: ⟨7, 30, [6], Kind.val (.int .u64 (wd A 0 : Nat)), true⟩ :: ⟨8, 31, [], Kind.val (.pointer (some ⟨gb, 0, none⟩)), true⟩ :: ⟨9, 32, [8], Kind.val (.int .u64 (wd B 0 : Nat)), true⟩ :: ⟨10, 33, [7, 9], Kind.val (.int .u64 (R0 : Nat)), true⟩ :: ⟨11, 34, [10, 5], Kind.val (.agg #[.int .u64 (wd R0 0 : Nat), .int .u64 (wd R0 1 : Nat), .int .u64 (wd R0 2 : Nat), .int .u64 (wd R0 3 : Nat)]), false⟩ :: []) _ _ v3 _ ?_ ?_ ?_ ?_ ?_ ?_ ?_ ?_ ?_ ?_ ?_
 ·rfl
 ·kernel_rfl
 ·exact of_decide_eq_true rfl
 ·(repeat refine all_cons ⟨_, rfl, rfl⟩ ?_); exact all_nil
 ·exact fun _ hb => ⟨Fa.out.on hb, Fb.out.on hb⟩
 ·exact (Below.refl _ _).drew
 ·kernel_rfl
 ·exact fun _ _ _ _ _ h => h
 ·(repeat (refine all_cons ?_ ?_; rotate_left)); exact all_nil
  ·exact core_held2C _ _ _ _ _ _ _ _ _ _ (by rfl) (by rfl) (ko 2) (known_const _) (fun ρ w hx hy _ => index_run _ _ _ _ _ _ _ ρ w ga 0 (by decide) hx hy)
  ·exact core_heldC _ _ _ _ _ _ _ _ (by rfl) (by rfl) (kc 0 23) (fun ρ w hx hs => load64_run _ _ _ _ _ _ ρ w ga 0 _ hx (hs.1.cell 0))
  ·exact core_held2C _ _ _ _ _ _ _ _ _ _ (by rfl) (by rfl) (ko 3) (known_const _) (fun ρ w hx hy _ => index_run _ _ _ _ _ _ _ ρ w gb 0 (by decide) hx hy)
  ·exact core_heldC _ _ _ _ _ _ _ _ (by rfl) (by rfl) (kc 2 25) (fun ρ w hx hs => load64_run _ _ _ _ _ _ ρ w gb 0 _ hx (hs.2.cell 0))
  ·exact core_held2C _ _ _ _ _ _ _ _ _ _ (by rfl) (by rfl) (kc 1 24) (kc 3 26) (fun ρ w hx hy _ => quo64_run _ _ _ _ _ _ _ ρ w (wd A 0) (wd B 0) V b0 hV vl hx hy)
  ·exact core_pureAs _ (by rfl)
  ·exact core_held2C _ _ _ _ _ _ _ _ _ _ (by rfl) (by rfl) (ko 2) (known_const _) (fun ρ w hx hy _ => index_run _ _ _ _ _ _ _ ρ w ga 0 (by decide) hx hy)
  ·exact core_heldC _ _ _ _ _ _ _ _ (by rfl) (by rfl) (kc 6 29) (fun ρ w hx hs => load64_run _ _ _ _ _ _ ρ w ga 0 _ hx (hs.1.cell 0))
  ·exact core_held2C _ _ _ _ _ _ _ _ _ _ (by rfl) (by rfl) (ko 3) (known_const _) (fun ρ w hx hy _ => index_run _ _ _ _ _ _ _ ρ w gb 0 (by decide) hx hy)
  ·exact core_heldC _ _ _ _ _ _ _ _ (by rfl) (by rfl) (kc 8 31) (fun ρ w hx hs => load64_run _ _ _ _ _ _ ρ w gb 0 _ hx (hs.2.cell 0))
  ·exact core_held2C _ _ _ _ _ _ _ _ _ _ (by rfl) (by rfl) (kc 7 30) (kc 9 32) (fun ρ w hx hy _ => rem64_run _ _ _ _ _ _ _ ρ w (wd A 0) (wd B 0) R0 b0 hR0 rl hx hy)
  ·exact core_pureAs _ (by rfl)
 ·(repeat (refine all_cons ?_ ?_; rotate_left)); exact all_nil
  ·exact sA
  ·exact sA
  ·exact sA
  ·exact sA
  ·exact sA
  ·exact fun _ => core_call _ 46 _ _ [.tmp 27] _ _ _ _ _ _ (by rfl) Try.func46 (by kernel_rfl) (by rfl) (by rfl) (.cons (kc 4 27) .nil) (HO1.out)
  ·exact sA
  ·exact sA
  ·exact sA
  ·exact sA
  ·exact sA
  ·exact fun _ => core_call _ 46 _ _ [.tmp 33] _ _ _ _ _ _ (by rfl) Try.func46 (by kernel_rfl) (by rfl) (by rfl) (.cons (kc 10 33) .nil) (HO2.out)
 intro vs y4 hc
 obtain ⟨vv0, vv1, vv2, vv3, vv4, vv5, vv6, vv7, vv8, vv9, vv10, vv11, rfl⟩ := len12 vs hc.lv
 have qq0 := okv hc 0
 have qq1 := okv hc 1
 have qq2 := okv hc 2
 have qq3 := okv hc 3
 have qq4 := okv hc 4
 have qq5 := okv hc 5
 have qq6 := okv hc 6
 have qq7 := okv hc 7
 have qq8 := okv hc 8
 have qq9 := okv hc 9
 have qq10 := okv hc 10
 have qq11 := okv hc 11
 have BZ := hc.bel
 clear hc
 have Na := Fa.out.on BZ
 have Nb := Fb.out.on BZ
 have Nq := Fq.out.on BZ
 have Nr := Fr.out.on BZ
 have HSZ4 := BW.out.size
 have NB := bel_tr BW.out BZ
 clear BW BZ Fa Fb Fq Fr
 subst qq0 qq1 qq2 qq3 qq4 qq5 qq6 qq7 qq8 qq9 qq10 qq11
 simp only [List.map_cons, List.map_nil, over, Act.put, List.setIfInBounds_toArray, List.set_cons_zero, List.set_cons_succ]
 have OLD := Nq
 replace Na := put4_far Na Daq (.int .u64 (wd V 0 : Nat)) (.int .u64 (wd V 1 : Nat)) (.int .u64 (wd V 2 : Nat)) (.int .u64 (wd V 3 : Nat))
 replace Nb := put4_far Nb Dbq (.int .u64 (wd V 0 : Nat)) (.int .u64 (wd V 1 : Nat)) (.int .u64 (wd V 2 : Nat)) (.int .u64 (wd V 3 : Nat))
 replace Nq := put4_at Nq (.int .u64 (wd V 0 : Nat)) (.int .u64 (wd V 1 : Nat)) (.int .u64 (wd V 2 : Nat)) (.int .u64 (wd V 3 : Nat))
 replace Nr := put4_far Nr Dqr.symm (.int .u64 (wd V 0 : Nat)) (.int .u64 (wd V 1 : Nat)) (.int .u64 (wd V 2 : Nat)) (.int .u64 (wd V 3 : Nat))
 replace NB := put4_below NB Eq (.int .u64 (wd V 0 : Nat)) (.int .u64 (wd V 1 : Nat)) (.int .u64 (wd V 2 : Nat)) (.int .u64 (wd V 3 : Nat))
 refine store_one (i := 12) _ _ _ _ _ gq _ _ _ _ _ _ _ _ (by kernel_rfl) (by rfl) (by rfl) (by rfl) OLD (⟨Na, Nb⟩) ?_
 clear OLD
 generalize (put4 y4 gq (.int .u64 (wd V 0 : Nat)) (.int .u64 (wd V 1 : Nat)) (.int .u64 (wd V 2 : Nat)) (.int .u64 (wd V 3 : Nat))) = y4_12 at *
 have OLD := Nr
 replace Na := put4_far Na Dar (.int .u64 (wd R0 0 : Nat)) (.int .u64 (wd R0 1 : Nat)) (.int .u64 (wd R0 2 : Nat)) (.int .u64 (wd R0 3 : Nat))
 replace Nb := put4_far Nb Dbr (.int .u64 (wd R0 0 : Nat)) (.int .u64 (wd R0 1 : Nat)) (.int .u64 (wd R0 2 : Nat)) (.int .u64 (wd R0 3 : Nat))
 replace Nq := put4_far Nq Dqr (.int .u64 (wd R0 0 : Nat)) (.int .u64 (wd R0 1 : Nat)) (.int .u64 (wd R0 2 : Nat)) (.int .u64 (wd R0 3 : Nat))
 replace Nr := put4_at Nr (.int .u64 (wd R0 0 : Nat)) (.int .u64 (wd R0 1 : Nat)) (.int .u64 (wd R0 2 : Nat)) (.int .u64 (wd R0 3 : Nat))
 replace NB := put4_below NB Er (.int .u64 (wd R0 0 : Nat)) (.int .u64 (wd R0 1 : Nat)) (.int .u64 (wd R0 2 : Nat)) (.int .u64 (wd R0 3 : Nat))
 refine store_one (i := 13) _ _ _ _ _ gr _ _ _ _ _ _ _ _ (by kernel_rfl) (by rfl) (by rfl) (by rfl) OLD (⟨Na, Nb⟩) ?_
 clear OLD
 generalize (put4 y4_12 gr (.int .u64 (wd R0 0 : Nat)) (.int .u64 (wd R0 1 : Nat)) (.int .u64 (wd R0 2 : Nat)) (.int .u64 (wd R0 3 : Nat))) = y4_13 at *
 refine assign_one (i := 14) _ 6 _ _ _ (.int .i64 0) (by kernel_rfl) (by rfl) (by rfl) (⟨Na, Nb⟩) ?_
 try simp only [Act.put, List.setIfInBounds_toArray, List.set_cons_zero, List.set_cons_succ]
 refine wpAnyH_done (by kernel_rfl) ?_ _
 refine NoPanic.normal ?_
 have Fa := Lib.hid Na
 have Fb := Lib.hid Nb
 have Fq := Lib.hid Nq
 have Fr := Lib.hid Nr
 have BW := Lib.hid NB
 clear NB Na Nb Nq Nr
 clear HSZ4
 have Lq := Fq.out.lt
 have cq0 := Fq.out.c0
 have cq1 := Fq.out.c1
 have cq2 := Fq.out.c2
 have cq3 := Fq.out.c3
 have Lr := Fr.out.lt
 have cr0 := Fr.out.c0
 have cr1 := Fr.out.c1
 have cr2 := Fr.out.c2
 have cr3 := Fr.out.c3
 go_wp2_with fail
 refine bodyPost_ret (v := .tuple #[num V, num R0, .int .i64 0]) (by simp [results, Try.results45, go_sem, *]) rfl ⟨rfl, BW.out⟩

set_option maxRecDepth 100000 in
set_option maxHeartbeats 8000000 in
theorem rdiv_l1 (A B V R0 : Nat) (EQ : ∀ w, (Op.equalIn 10000 24 (num B) (.agg #[.int .u64 0, .int .u64 0, .int .u64 0, .int .u64 0])).run Try.prog w = .ok false w) (hA : A < 2 ^ 256) (hB : B < 2 ^ 256) (hB0 : 0 < B) (hV : V = A / B) (hR0 : R0 = A % B)
  (WA : ∀ w, Calls Try.prog 65 #[num A] w fun e w' => e = .returned (.bool false) ∧ Below w.heap.size w w')
  (w : World) : Calls Try.prog 45 #[num A, num B] w fun e w' => e = .returned (.tuple #[num V, num R0, .int .i64 0]) ∧ Below w.heap.size w w' := by
 have HWA := Lib.hid WA
 have HA := Lib.hid hA; have HB := Lib.hid hB; have HB0 := Lib.hid hB0; have HV := Lib.hid hV; have HR0 := Lib.hid hR0
 clear WA hA hB hB0 hV hR0
 go_enter Try.func45, Try.ntmps45
 go_wp2_with (simp only [EQ])
 clear EQ
 have BW := Lib.hid (Below.refl w.heap.size w)
 generalize hW1 : ((((w.alloc (.cells #[.int .u64 (wd A 0 : Nat), .int .u64 (wd A 1 : Nat), .int .u64 (wd A 2 : Nat), .int .u64 (wd A 3 : Nat)] 24)).alloc (.cells #[.int .u64 (wd B 0 : Nat), .int .u64 (wd B 1 : Nat), .int .u64 (wd B 2 : Nat), .int .u64 (wd B 3 : Nat)] 24)).alloc (.cells #[.int .u64 0, .int .u64 0, .int .u64 0, .int .u64 0] 24)).alloc (.cells #[.int .u64 0, .int .u64 0, .int .u64 0, .int .u64 0] 24)) = W1 at *
 have Na : At W1 (w.heap.size) _ _ := at_of hW1 ((((At.at_ _ _ _ _ (by simp)).alloc _).alloc _).alloc _)
 have Nb : At W1 (w.heap.size + 1) _ _ := at_of hW1 (((At.at_ _ _ _ _ (by simp)).alloc _).alloc _)
 have Nq : At W1 (w.heap.size + 1 + 1) _ _ := at_of hW1 ((At.at_ _ _ _ _ (by simp)).alloc _)
 have Eq : w.heap.size ≤ w.heap.size + 1 + 1 := by have := BW.out.size; omega
 have Daq : w.heap.size ≠ w.heap.size + 1 + 1 := by omega
 have Dbq : w.heap.size + 1 ≠ w.heap.size + 1 + 1 := by omega
 have Nr : At W1 (w.heap.size + 1 + 1 + 1) _ _ := at_of hW1 (At.at_ _ _ _ _ (by simp))
 have Er : w.heap.size ≤ w.heap.size + 1 + 1 + 1 := by have := BW.out.size; omega
 have Dar : w.heap.size ≠ w.heap.size + 1 + 1 + 1 := by omega
 have Dbr : w.heap.size + 1 ≠ w.heap.size + 1 + 1 + 1 := by omega
 have Dqr : w.heap.size + 1 + 1 ≠ w.heap.size + 1 + 1 + 1 := by omega
 have NB := gr_of hW1 (gr_alloc (gr_alloc (gr_alloc (gr_alloc BW.out _) _) _) _)
 clear BW
 clear hW1
 generalize w.heap.size + 1 + 1 + 1 = gr at *
 generalize w.heap.size + 1 + 1 = gq at *
 generalize w.heap.size + 1 = gb at *
 obtain ⟨ga, hg0⟩ : ∃ g, g = w.heap.size := ⟨_, rfl⟩
 rw [← hg0] at Na ⊢
 rw [← hg0] at Daq Dar
 clear hg0
 have Fa := Lib.hid Na
 have Fb := Lib.hid Nb
 have Fq := Lib.hid Nq
 have Fr := Lib.hid Nr
 have BW := Lib.hid NB
 clear NB Na Nb Nq Nr
 refine (HWA.out _).mono ?_
 rintro e v2 ⟨rfl, z2⟩
 have Na := Lib.hid (Fa.out.on z2)
 have Nb := Lib.hid (Fb.out.on z2)
 have Nq := Lib.hid (Fq.out.on z2)
 have Nr := Lib.hid (Fr.out.on z2)
 have NB := Lib.hid (bel_tr BW.out z2)
 clear BW z2 Fa Fb Fq Fr
 have Fa := Na
 have Fb := Nb
 have Fq := Nq
 have Fr := Nr
 have BW := NB
 clear NB Na Nb Nq Nr
 go_wp2_with fail
 generalize hW3 : ((v2.alloc (.cells #[.int .u64 0, .int .u64 0, .int .u64 0, .int .u64 0] 24)).alloc (.cells #[.int .u64 0, .int .u64 0, .int .u64 0, .int .u64 0] 24)) = W3 at *
 have Nu : At W3 (v2.heap.size) _ _ := at_of hW3 ((At.at_ _ _ _ _ (by simp)).alloc _)
 have Eu : w.heap.size ≤ v2.heap.size := by have := BW.out.size; omega
 have Dau : ga ≠ v2.heap.size := by have := Fa.out.lt; omega
 have Dbu : gb ≠ v2.heap.size := by have := Fb.out.lt; omega
 have Dqu : gq ≠ v2.heap.size := by have := Fq.out.lt; omega
 have Dru : gr ≠ v2.heap.size := by have := Fr.out.lt; omega
 have Ns : At W3 (v2.heap.size + 1) _ _ := at_of hW3 (At.at_ _ _ _ _ (by simp))
 have Es : w.heap.size ≤ v2.heap.size + 1 := by have := BW.out.size; omega
 have Das : ga ≠ v2.heap.size + 1 := by have := Fa.out.lt; omega
 have Dbs : gb ≠ v2.heap.size + 1 := by have := Fb.out.lt; omega
 have Dqs : gq ≠ v2.heap.size + 1 := by have := Fq.out.lt; omega
 have Drs : gr ≠ v2.heap.size + 1 := by have := Fr.out.lt; omega
 have Dus : v2.heap.size ≠ v2.heap.size + 1 := by omega
 have Na := at_of hW3 ((Fa.out.alloc _).alloc _)
 have Nb := at_of hW3 ((Fb.out.alloc _).alloc _)
 have Nq := at_of hW3 ((Fq.out.alloc _).alloc _)
 have Nr := at_of hW3 ((Fr.out.alloc _).alloc _)
 have NB := gr_of hW3 (gr_alloc (gr_alloc BW.out _) _)
 clear BW Fa Fb Fq Fr
 clear hW3
 generalize v2.heap.size + 1 = gs at *
 generalize v2.heap.size = gu at *
 have Fa := Lib.hid Na
 have Fb := Lib.hid Nb
 have Fq := Lib.hid Nq
 have Fr := Lib.hid Nr
 have Fu := Lib.hid Nu
 have Fs := Lib.hid Ns
 have BW := Lib.hid NB
 clear NB Na Nb Nq Nr Nu Ns
 go_loopw [9] (fun n9 wr => ∃ i Q rr : Nat, i ≤ 256 ∧ n9 = .int .i64 ((i : Int) - 1) ∧ Hid (At wr ga 24 #[.int .u64 (wd A 0 : Nat), .int .u64 (wd A 1 : Nat), .int .u64 (wd A 2 : Nat), .int .u64 (wd A 3 : Nat)] ∧ At wr gb 24 #[.int .u64 (wd B 0 : Nat), .int .u64 (wd B 1 : Nat), .int .u64 (wd B 2 : Nat), .int .u64 (wd B 3 : Nat)] ∧ At wr gq 24 #[.int .u64 0, .int .u64 0, .int .u64 0, .int .u64 0] ∧ At wr gr 24 #[.int .u64 0, .int .u64 0, .int .u64 0, .int .u64 0] ∧ At wr gu 24 #[.int .u64 (wd (Q * 2 ^ i) 0 : Nat), .int .u64 (wd (Q * 2 ^ i) 1 : Nat), .int .u64 (wd (Q * 2 ^ i) 2 : Nat), .int .u64 (wd (Q * 2 ^ i) 3 : Nat)] ∧ At wr gs 24 #[.int .u64 (wd rr 0 : Nat), .int .u64 (wd rr 1 : Nat), .int .u64 (wd rr 2 : Nat), .int .u64 (wd rr 3 : Nat)] ∧ Below w.heap.size w wr ∧ rr < B ∧ A / 2 ^ i = Q * B + rr)) (fun n9 _ => (intOf n9 + 1).toNat)
 case atStart =>
  have e : ∀ k, wd (0 * 2 ^ 256) k = 0 := fun k => by simp [wd]
  have e2 : ∀ k, wd 0 k = 0 := fun k => by simp [wd]
  refine ⟨256, 0, 0, by omega, rfl, Fa.out, Fb.out, Fq.out, Fr.out, ?_, ?_, BW.out, HB0.out, by rw [Nat.div_eq_of_lt HA.out]; simp⟩
  ·rw [e, e, e, e]; exact Fu.out
  ·rw [e2, e2, e2, e2]; exact Fs.out
 case round =>
  obtain ⟨i, Q, rr, hi, rfl, hM⟩ := hrel
  clear BW Fa Fb Fq Fr Fu Fs
  have Fa := Lib.hid hM.out.1
  have Fb := Lib.hid hM.out.2.1
  have Fq := Lib.hid hM.out.2.2.1
  have Fr := Lib.hid hM.out.2.2.2.1
  have Fu := Lib.hid hM.out.2.2.2.2.1
  have Fs := Lib.hid hM.out.2.2.2.2.2.1
  have BW := Lib.hid hM.out.2.2.2.2.2.2.1
  have HRB := Lib.hid hM.out.2.2.2.2.2.2.2.1
  have HE := Lib.hid hM.out.2.2.2.2.2.2.2.2
  clear hM
  by_cases h0 : i = 0
  ·subst h0
   have hv : Q = V := by
    have := HE.out; rw [Nat.pow_zero, Nat.div_one] at this
    rw [HV.out, this, Nat.mul_comm, Nat.mul_add_div HB0.out, Nat.div_eq_of_lt HRB.out, Nat.add_zero]
   have hr : rr = R0 := by
    have := HE.out; rw [Nat.pow_zero, Nat.div_one] at this
    rw [HR0.out, this, Nat.mul_comm, Nat.mul_add_mod, Nat.mod_eq_of_lt HRB.out]
   have Nu := Fu.out
   rw [Nat.pow_zero, Nat.mul_one, hv] at Nu
   have Ns := Fs.out
   rw [hr] at Ns
   clear Fu Fs HE HRB hv hr
   have Fu := Lib.hid Nu; have Fs := Lib.hid Ns
   clear Nu Ns
   go_wp2_with fail
   try simp only [List.append_eq, List.cons_append, List.nil_append]
   refine wp_region_noPanic ?_
   refine wp_region_held_drew (S := fun w' => At w' gu 24 #[.int .u64 (wd V 0 : Nat), .int .u64 (wd V 1 : Nat), .int .u64 (wd V 2 : Nat), .int .u64 (wd V 3 : Nat)] ∧ At w' gs 24 #[.int .u64 (wd R0 0 : Nat), .int .u64 (wd R0 1 : Nat), .int .u64 (wd R0 2 : Nat), .int .u64 (wd R0 3 : Nat)]) (by kernel_rfl) (⟨Fu.out.drew, Fs.out.drew⟩) (fun _ => ?_)
   refine wpAnyH_cores (fuel := 3) (⟨0, 78, [], Kind.val (.agg #[.int .u64 (wd V 0 : Nat), .int .u64 (wd V 1 : Nat), .int .u64 (wd V 2 : Nat), .int .u64 (wd V 3 : Nat)]), true⟩ :: ⟨1, 79, [], Kind.val (.agg #[.int .u64 (wd R0 0 : Nat), .int .u64 (wd R0 1 : Nat), .int .u64 (wd R0 2 : Nat), .int .u64 (wd R0 3 : Nat)]), true⟩ :: []) _ _ wr _ ?_ ?_ ?_ ?_ ?_ ?_ ?_ ?_ ?_ ?_ ?_
   ·rfl
   ·kernel_rfl
   ·exact of_decide_eq_true rfl
   ·(repeat refine all_cons ⟨_, rfl, rfl⟩ ?_); exact all_nil
   ·exact fun _ hb => ⟨Fu.out.on hb, Fs.out.on hb⟩
   ·exact (Below.refl _ _).drew
   ·kernel_rfl
   ·exact fun _ _ _ _ _ h => h
   ·refine all_cons ?_ (all_cons ?_ (all_nil))
    ·exact core_loadP _ _ _ _ _ gu _ _ _ _ (by rfl) (by rfl) (ko 7) (fun _ hs => hs.1)
    ·exact core_loadP _ _ _ _ _ gs _ _ _ _ (by rfl) (by rfl) (ko 8) (fun _ hs => hs.2)
   ·refine all_cons ?_ (all_cons ?_ (all_nil))
    ·exact sA
    ·exact sA
   intro vs y4 hc
   obtain ⟨vv0, vv1, rfl⟩ := len2 vs hc.lv
   have qq0 := okv hc 0
   have qq1 := okv hc 1
   have BZ := hc.bel
   clear hc
   have Na := Fa.out.on BZ
   have Nb := Fb.out.on BZ
   have Nq := Fq.out.on BZ
   have Nr := Fr.out.on BZ
   have Nu := Fu.out.on BZ
   have Ns := Fs.out.on BZ
   have HSZ4 := BW.out.size
   have NB := bel_tr BW.out BZ
   clear BW BZ Fa Fb Fq Fr Fu Fs
   subst qq0 qq1
   simp only [List.map_cons, List.map_nil, over, Act.put, List.setIfInBounds_toArray, List.set_cons_zero, List.set_cons_succ]
   have OLD := Nq
   replace Na := put4_far Na Daq (.int .u64 (wd V 0 : Nat)) (.int .u64 (wd V 1 : Nat)) (.int .u64 (wd V 2 : Nat)) (.int .u64 (wd V 3 : Nat))
   replace Nb := put4_far Nb Dbq (.int .u64 (wd V 0 : Nat)) (.int .u64 (wd V 1 : Nat)) (.int .u64 (wd V 2 : Nat)) (.int .u64 (wd V 3 : Nat))
   replace Nq := put4_at Nq (.int .u64 (wd V 0 : Nat)) (.int .u64 (wd V 1 : Nat)) (.int .u64 (wd V 2 : Nat)) (.int .u64 (wd V 3 : Nat))
   replace Nr := put4_far Nr Dqr.symm (.int .u64 (wd V 0 : Nat)) (.int .u64 (wd V 1 : Nat)) (.int .u64 (wd V 2 : Nat)) (.int .u64 (wd V 3 : Nat))
   replace Nu := put4_far Nu Dqu.symm (.int .u64 (wd V 0 : Nat)) (.int .u64 (wd V 1 : Nat)) (.int .u64 (wd V 2 : Nat)) (.int .u64 (wd V 3 : Nat))
   replace Ns := put4_far Ns Dqs.symm (.int .u64 (wd V 0 : Nat)) (.int .u64 (wd V 1 : Nat)) (.int .u64 (wd V 2 : Nat)) (.int .u64 (wd V 3 : Nat))
   replace NB := put4_below NB Eq (.int .u64 (wd V 0 : Nat)) (.int .u64 (wd V 1 : Nat)) (.int .u64 (wd V 2 : Nat)) (.int .u64 (wd V 3 : Nat))
   refine store_one (i := 2) _ _ _ _ _ gq _ _ _ _ _ _ _ _ (by kernel_rfl) (by rfl) (by rfl) (by rfl) OLD (⟨Nu, Ns⟩) ?_
   clear OLD
   generalize (put4 y4 gq (.int .u64 (wd V 0 : Nat)) (.int .u64 (wd V 1 : Nat)) (.int .u64 (wd V 2 : Nat)) (.int .u64 (wd V 3 : Nat))) = y4_2 at *
   have OLD := Nr
   replace Na := put4_far Na Dar (.int .u64 (wd R0 0 : Nat)) (.int .u64 (wd R0 1 : Nat)) (.int .u64 (wd R0 2 : Nat)) (.int .u64 (wd R0 3 : Nat))
   replace Nb := put4_far Nb Dbr (.int .u64 (wd R0 0 : Nat)) (.int .u64 (wd R0 1 : Nat)) (.int .u64 (wd R0 2 : Nat)) (.int .u64 (wd R0 3 : Nat))
   replace Nq := put4_far Nq Dqr (.int .u64 (wd R0 0 : Nat)) (.int .u64 (wd R0 1 : Nat)) (.int .u64 (wd R0 2 : Nat)) (.int .u64 (wd R0 3 : Nat))
   replace Nr := put4_at Nr (.int .u64 (wd R0 0 : Nat)) (.int .u64 (wd R0 1 : Nat)) (.int .u64 (wd R0 2 : Nat)) (.int .u64 (wd R0 3 : Nat))
   replace Nu := put4_far Nu Dru.symm (.int .u64 (wd R0 0 : Nat)) (.int .u64 (wd R0 1 : Nat)) (.int .u64 (wd R0 2 : Nat)) (.int .u64 (wd R0 3 : Nat))
   replace Ns := put4_far Ns Drs.symm (.int .u64 (wd R0 0 : Nat)) (.int .u64 (wd R0 1 : Nat)) (.int .u64 (wd R0 2 : Nat)) (.int .u64 (wd R0 3 : Nat))
   replace NB := put4_below NB Er (.int .u64 (wd R0 0 : Nat)) (.int .u64 (wd R0 1 : Nat)) (.int .u64 (wd R0 2 : Nat)) (.int .u64 (wd R0 3 : Nat))
   refine store_one (i := 3) _ _ _ _ _ gr _ _ _ _ _ _ _ _ (by kernel_rfl) (by rfl) (by rfl) (by rfl) OLD (⟨Nu, Ns⟩) ?_
   clear OLD
   generalize (put4 y4_2 gr (.int .u64 (wd R0 0 : Nat)) (.int .u64 (wd R0 1 : Nat)) (.int .u64 (wd R0 2 : Nat)) (.int .u64 (wd R0 3 : Nat))) = y4_3 at *
   refine assign_one (i := 4) _ 6 _ _ _ (.int .i64 0) (by kernel_rfl) (by rfl) (by rfl) (⟨Nu, Ns⟩) ?_
   try simp only [Act.put, List.setIfInBounds_toArray, List.set_cons_zero, List.set_cons_succ]
   refine wpAnyH_done (by kernel_rfl) ?_ _
   refine NoPanic.normal ?_
   have Fa := Lib.hid Na
   have Fb := Lib.hid Nb
   have Fq := Lib.hid Nq
   have Fr := Lib.hid Nr
   have Fu := Lib.hid Nu
   have Fs := Lib.hid Ns
   have BW := Lib.hid NB
   clear NB Na Nb Nq Nr Nu Ns
   clear HSZ4
   have Lq := Fq.out.lt
   have cq0 := Fq.out.c0
   have cq1 := Fq.out.c1
   have cq2 := Fq.out.c2
   have cq3 := Fq.out.c3
   have Lr := Fr.out.lt
   have cr0 := Fr.out.c0
   have cr1 := Fr.out.c1
   have cr2 := Fr.out.c2
   have cr3 := Fr.out.c3
   go_wp2_with fail
   exact bodyPost_ret (v := .tuple #[num V, num R0, .int .i64 0]) (by simp [results, Try.results45, go_sem, *]) rfl ⟨rfl, BW.out⟩
  ·obtain ⟨j, rfl⟩ : ∃ j, i = j + 1 := ⟨i - 1, by omega⟩
   have hj256 : j < 256 := by omega
   have e1 : (((j + 1 : Nat) : Int) - 1) = (j : Nat) := by omega
   rw [e1]
   clear e1 h0
   have hB256 := HB.out
   have hr256 : rr < 2 ^ 256 := by have := HRB.out; omega
   obtain ⟨S, c, hS, hc, he, _⟩ := add_ex rr rr hr256 hr256
   have AD := radd_any rr rr S c hr256 hr256 hS hc he
   obtain ⟨z, hz⟩ : ∃ z, z = A / 2 ^ j % 2 := ⟨_, rfl⟩
   have hz1 : z ≤ 1 := by omega
   have BT := rbit_any A HA.out (j : Int)
   have hbt : bt A (j : Int) = z := by unfold bt; rw [if_neg (by omega), Int.toNat_natCast]; exact hz.symm
   rw [hbt] at BT
   have ev : S % 2 = 0 := by omega
   obtain ⟨w0, w1, w2, w3⟩ := even_word S z hS ev hz1
   obtain ⟨U, hU⟩ : ∃ U, U = S + z := ⟨_, rfl⟩
   rw [← hU] at w0 w1 w2 w3
   have hU256 : U < 2 ^ 256 := by omega
   have hsame : ∀ n, n ≠ 0 → wd U n = wd S n := fun n hn => by
    rcases Nat.lt_or_ge n 4 with h | h
    ·match n, h with
     | 0, _ => exact absurd rfl hn
     | 1, _ => exact w1
     | 2, _ => exact w2
     | 3, _ => exact w3
    ·unfold wd
     have hp : 2 ^ 256 ≤ 18446744073709551616 ^ n := by rw [show (2 : Nat) ^ 256 = 18446744073709551616 ^ 4 from rfl]; exact Nat.pow_le_pow_right (by decide) h
     rw [Nat.div_eq_of_lt (Nat.lt_of_lt_of_le hU256 hp), Nat.div_eq_of_lt (Nat.lt_of_lt_of_le hS hp)]
   have hu0 : wd S 0 + z = wd U 0 := w0.symm
   have hul := wd_lt U 0
   have hA2 : A / 2 ^ j = 2 * (A / 2 ^ (j + 1)) + z := by rw [hz]; exact wide_half A j
   have hA3 : A / 2 ^ j = 2 * (Q * B) + (U + 2 ^ 256 * c) := by rw [hA2, HE.out]; omega
   have htot : 2 * rr + z = U + 2 ^ 256 * c := by omega
   have HTOT := Lib.hid htot; have HZ1 := Lib.hid hz1
   clear htot
   obtain ⟨X1, hX1⟩ : ∃ X, X = Q * 2 ^ (j + 1) := ⟨_, rfl⟩
   have Nu := Fu.out
   rw [← hX1] at Nu
   clear Fu
   have Fu := Lib.hid Nu
   clear Nu
   have HAD := Lib.hid AD; have HBT := Lib.hid BT; have HSAME := Lib.hid hsame; have HU0 := Lib.hid hu0; have HUL := Lib.hid hul; have HA3 := Lib.hid hA3; have HX1 := Lib.hid hX1; have HJ := Lib.hid hj256
   clear AD BT hsame hu0 hul hA2 hA3 hX1 w0 w1 w2 w3 ev hz hbt hz1 he hS HE hU
   have h01 : c = 1 ∨ c = 0 := by omega
   rcases h01 with rfl | rfl
   ·obtain ⟨D, l, hD, hl, he2, _⟩ := sub_ex U B hU256 hB256
    have SU := rsub_any U B D l hU256 hB256 hD hl he2
    have hrb := HRB.out; have tot := HTOT.out; have z1 := HZ1.out
    have hdl : D < B ∧ A / 2 ^ j = (2 * Q + 1) * B + D := by
     have a3 := HA3.out
     have e : (2 * Q + 1) * B = 2 * (Q * B) + B := by rw [Nat.add_mul, Nat.one_mul, Nat.mul_assoc]
     rw [e]; constructor <;> omega
    have HSU := Lib.hid SU; have HDL := Lib.hid hdl
    clear SU hdl hD hl he2 hrb tot z1 hc hr256 hB256 hU256
    have j0 : (0 : Int) ≤ (j : Int) := by omega
    have Ls := Fs.out.lt
    have cs0 := Fs.out.c0
    have cs1 := Fs.out.c1
    have cs2 := Fs.out.c2
    have cs3 := Fs.out.c3
    go_wp2_with fail
    clear Ls cs0 cs1 cs2 cs3
    refine (HAD.out _).mono ?_
    rintro e v4 ⟨rfl, z4⟩
    have Na := Lib.hid (Fa.out.on z4)
    have Nb := Lib.hid (Fb.out.on z4)
    have Nq := Lib.hid (Fq.out.on z4)
    have Nr := Lib.hid (Fr.out.on z4)
    have Nu := Lib.hid (Fu.out.on z4)
    have Ns := Lib.hid (Fs.out.on z4)
    have NB := Lib.hid (bel_tr BW.out z4)
    clear BW z4 Fa Fb Fq Fr Fu Fs
    have Fa := Na
    have Fb := Nb
    have Fq := Nq
    have Fr := Nr
    have Fu := Nu
    have Fs := Ns
    have BW := NB
    clear NB Na Nb Nq Nr Nu Ns
    go_wp2_with fail
    generalize hW5 : (v4.alloc (.cells #[.int .u64 (wd S 0 : Nat), .int .u64 (wd S 1 : Nat), .int .u64 (wd S 2 : Nat), .int .u64 (wd S 3 : Nat)] 24)) = W5 at *
    have Nx : At W5 (v4.heap.size) _ _ := at_of hW5 (At.at_ _ _ _ _ (by simp))
    have Ex : w.heap.size ≤ v4.heap.size := by have := BW.out.size; omega
    have Dax : ga ≠ v4.heap.size := by have := Fa.out.lt; omega
    have Dbx : gb ≠ v4.heap.size := by have := Fb.out.lt; omega
    have Dqx : gq ≠ v4.heap.size := by have := Fq.out.lt; omega
    have Drx : gr ≠ v4.heap.size := by have := Fr.out.lt; omega
    have Dux : gu ≠ v4.heap.size := by have := Fu.out.lt; omega
    have Dsx : gs ≠ v4.heap.size := by have := Fs.out.lt; omega
    have Na := at_of hW5 (Fa.out.alloc _)
    have Nb := at_of hW5 (Fb.out.alloc _)
    have Nq := at_of hW5 (Fq.out.alloc _)
    have Nr := at_of hW5 (Fr.out.alloc _)
    have Nu := at_of hW5 (Fu.out.alloc _)
    have Ns := at_of hW5 (Fs.out.alloc _)
    have NB := gr_of hW5 (gr_alloc BW.out _)
    clear BW Fa Fb Fq Fr Fu Fs
    clear hW5
    generalize v4.heap.size = gx at *
    have Fa := Lib.hid Na
    have Fb := Lib.hid Nb
    have Fq := Lib.hid Nq
    have Fr := Lib.hid Nr
    have Fu := Lib.hid Nu
    have Fs := Lib.hid Ns
    have Fx := Lib.hid Nx
    have BW := Lib.hid NB
    clear NB Na Nb Nq Nr Nu Ns Nx
    try simp only [List.append_eq, List.cons_append, List.nil_append]
    refine wp_region_noPanic ?_
    refine wp_region_held_drew (S := fun w' => True) (by kernel_rfl) (trivial) (fun _ => ?_)
    refine wpAnyH_cores (fuel := 1) (⟨0, 45, [], Kind.val (.pointer (some ⟨gx, 0, none⟩)), true⟩ :: ⟨1, 46, [0], Kind.val (.int .u64 (wd S 0 : Nat)), false⟩ :: ⟨2, 47, [], Kind.val (.agg #[.int .u64 (wd A 0 : Nat), .int .u64 (wd A 1 : Nat), .int .u64 (wd A 2 : Nat), .int .u64 (wd A 3 : Nat)]), false⟩ :: ⟨3, 48, [], Kind.val (.int .i64 (j : Nat)), true⟩ :: ⟨4, 49, [2, 3], Kind.val (.int .u64 (z : Nat)), false⟩ :: ⟨5, 50, [1, 4], Kind.val (.int .u64 (wd U 0 : Nat)), true⟩ :: ⟨6, 51, [], Kind.val (.pointer (some ⟨gx, 0, none⟩)), true⟩ :: []) _ _ W5 _ ?_ ?_ ?_ ?_ ?_ ?_ ?_ ?_ ?_ ?_ ?_
    ·rfl
    ·kernel_rfl
    ·exact of_decide_eq_true rfl
    ·(repeat refine all_cons ⟨_, rfl, rfl⟩ ?_); exact all_nil
    ·exact fun _ hb => trivial
    ·exact (Below.refl _ _).drew
    ·kernel_rfl
    ·exact fun _ _ _ _ _ h => h
    ·(repeat (refine all_cons ?_ ?_; rotate_left)); exact all_nil
     ·exact core_held2C _ _ _ _ _ _ _ _ _ _ (by rfl) (by rfl) (ko 10) (known_const _) (fun ρ w hx hy _ => index_run _ _ _ _ _ _ _ ρ w gx 0 (by decide) hx hy)
     ·exact core_pureAs _ (by rfl)
     ·exact core_pureAs _ (by rfl)
     ·exact core_move _ _ _ _ _ _ (by rfl) (by rfl) (ko 9)
     ·exact core_pureAs _ (by rfl)
     ·exact core_held2C _ _ _ _ _ _ _ _ _ _ (by rfl) (by rfl) (kc 1 46) (kc 4 49) (fun ρ w hx hy _ => addU_run _ _ _ _ _ _ _ ρ w (wd S 0) z (wd U 0) HU0.out HUL.out hx hy)
     ·exact core_held2C _ _ _ _ _ _ _ _ _ _ (by rfl) (by rfl) (ko 10) (known_const _) (fun ρ w hx hy _ => index_run _ _ _ _ _ _ _ ρ w gx 0 (by decide) hx hy)
    ·(repeat (refine all_cons ?_ ?_; rotate_left)); exact all_nil
     ·exact sA
     ·exact fun _ => core_step _ _ _ _ _ _ _ _ (by rfl) (by rfl) (kc 0 45) (fun ρ w hx hb => load64_run _ _ _ _ _ _ ρ w gx 0 _ hx ((Fx.out.on hb).cell 0))
     ·exact fun _ => core_load _ _ _ _ _ ga _ _ _ _ (by rfl) (by rfl) (ko 2) Fa.out
     ·exact sA
     ·exact fun _ => core_call _ 66 _ _ [.tmp 47, .tmp 48] _ _ _ _ _ _ (by rfl) Try.func66 (by kernel_rfl) (by rfl) (by rfl) (.cons (kc 2 47) (.cons (kc 3 48) .nil)) (HBT.out)
     ·exact sA
     ·exact sA
    intro vs y6 hc
    obtain ⟨vv0, vv1, vv2, vv3, vv4, vv5, vv6, rfl⟩ := len7 vs hc.lv
    have qq0 := okv hc 0
    have qq1 := okv hc 1
    have qq2 := okv hc 2
    have qq3 := okv hc 3
    have qq4 := okv hc 4
    have qq5 := okv hc 5
    have qq6 := okv hc 6
    have BZ := hc.bel
    clear hc
    have Na := Fa.out.on BZ
    have Nb := Fb.out.on BZ
    have Nq := Fq.out.on BZ
    have Nr := Fr.out.on BZ
    have Nu := Fu.out.on BZ
    have Ns := Fs.out.on BZ
    have Nx := Fx.out.on BZ
    have HSZ6 := BW.out.size
    have NB := bel_tr BW.out BZ
    clear BW BZ Fa Fb Fq Fr Fu Fs Fx
    subst qq0 qq1 qq2 qq3 qq4 qq5 qq6
    simp only [List.map_cons, List.map_nil, over, Act.put, List.setIfInBounds_toArray, List.set_cons_zero, List.set_cons_succ]
    have OLD := Nx
    replace Na := At.far Na (p := ⟨gx, 0, none⟩) Dax.symm (.int .u64 (wd U 0 : Nat))
    replace Nb := At.far Nb (p := ⟨gx, 0, none⟩) Dbx.symm (.int .u64 (wd U 0 : Nat))
    replace Nq := At.far Nq (p := ⟨gx, 0, none⟩) Dqx.symm (.int .u64 (wd U 0 : Nat))
    replace Nr := At.far Nr (p := ⟨gx, 0, none⟩) Drx.symm (.int .u64 (wd U 0 : Nat))
    replace Nu := At.far Nu (p := ⟨gx, 0, none⟩) Dux.symm (.int .u64 (wd U 0 : Nat))
    replace Ns := At.far Ns (p := ⟨gx, 0, none⟩) Dsx.symm (.int .u64 (wd U 0 : Nat))
    have NEWC : At (y6.setCell ⟨gx, 0, none⟩ (.int .u64 (wd U 0 : Nat))) gx 24 #[.int .u64 (wd U 0 : Nat), .int .u64 (wd U 1 : Nat), .int .u64 (wd U 2 : Nat), .int .u64 (wd U 3 : Nat)] := by
     have := At.set Nx 0 (.int .u64 (wd U 0 : Nat))
     rw [set_cell S U 0 (wd U 0) (by decide) rfl HSAME.out] at this; exact this
    replace Nx := NEWC
    clear NEWC
    have NBC : Below w.heap.size w (y6.setCell ⟨gx, 0, none⟩ (.int .u64 (wd U 0 : Nat))) := NB.setCell Ex _
    replace NB := NBC
    clear NBC
    refine store_word (i := 7) _ _ _ _ _ gx 0 _ _ (by kernel_rfl) (by rfl) (by rfl) (by rfl) (OLD.lt) (OLD.cell 0) (OLD.frozen 0) (trivial) ?_
    clear OLD
    generalize (y6.setCell ⟨gx, 0, none⟩ (.int .u64 (wd U 0 : Nat))) = y6_7 at *
    refine wpAnyH_done (by kernel_rfl) ?_ _
    refine NoPanic.normal ?_
    have Fa := Lib.hid Na
    have Fb := Lib.hid Nb
    have Fq := Lib.hid Nq
    have Fr := Lib.hid Nr
    have Fu := Lib.hid Nu
    have Fs := Lib.hid Ns
    have Fx := Lib.hid Nx
    have BW := Lib.hid NB
    clear NB Na Nb Nq Nr Nu Ns Nx
    clear HSZ6
    have Lx := Fx.out.lt
    have cx0 := Fx.out.c0
    have cx1 := Fx.out.c1
    have cx2 := Fx.out.c2
    have cx3 := Fx.out.c3
    have Lb := Fb.out.lt
    have cb0 := Fb.out.c0
    have cb1 := Fb.out.c1
    have cb2 := Fb.out.c2
    have cb3 := Fb.out.c3
    have Ls := Fs.out.lt
    have cs0 := Fs.out.c0
    have cs1 := Fs.out.c1
    have cs2 := Fs.out.c2
    have cs3 := Fs.out.c3
    have fs0 : y6_7.frozen? ⟨gs, 0, none⟩ = false := Fs.out.frozen 0
    have fs1 : y6_7.frozen? ⟨gs, 1, none⟩ = false := Fs.out.frozen 1
    have fs2 : y6_7.frozen? ⟨gs, 2, none⟩ = false := Fs.out.frozen 2
    have fs3 : y6_7.frozen? ⟨gs, 3, none⟩ = false := Fs.out.frozen 3
    go_wp2_with fail
    generalize hW7 : ((((y6_7.setCell ⟨gs, 0, none⟩ (.int .u64 (wd U 0 : Nat))).setCell ⟨gs, 1, none⟩ (.int .u64 (wd U 1 : Nat))).setCell ⟨gs, 2, none⟩ (.int .u64 (wd U 2 : Nat))).setCell ⟨gs, 3, none⟩ (.int .u64 (wd U 3 : Nat))) = W7 at *
    clear Lx cx0 cx1 cx2 cx3 Lb cb0 cb1 cb2 cb3 Ls cs0 cs1 cs2 cs3 fs0 fs1 fs2 fs3
    have Na_0 := at_of hW7 ((Fa.out).far4 Das _ _ _ _)
    have Nb_0 := at_of hW7 ((Fb.out).far4 Dbs _ _ _ _)
    have Nq_0 := at_of hW7 ((Fq.out).far4 Dqs _ _ _ _)
    have Nr_0 := at_of hW7 ((Fr.out).far4 Drs _ _ _ _)
    have Nu_0 := at_of hW7 ((Fu.out).far4 Dus _ _ _ _)
    have Ns_0 := at_of hW7 ((Fs.out).put4 _ _ _ _)
    have Nx_0 := at_of hW7 ((Fx.out).far4 Dsx.symm _ _ _ _)
    have NB_0 := gr_of hW7 (((((BW.out).setCell Es _).setCell Es _).setCell Es _).setCell Es _)
    have Na := Na_0
    have Nb := Nb_0
    have Nq := Nq_0
    have Nr := Nr_0
    have Nu := Nu_0
    have Ns := Ns_0
    have Nx := Nx_0
    have NB := NB_0
    clear BW Fa Fb Fq Fr Fu Fs Fx Na_0 Nb_0 Nq_0 Nr_0 Nu_0 Ns_0 Nx_0 NB_0
    clear hW7
    have Fa := Lib.hid Na
    have Fb := Lib.hid Nb
    have Fq := Lib.hid Nq
    have Fr := Lib.hid Nr
    have Fu := Lib.hid Nu
    have Fs := Lib.hid Ns
    have Fx := Lib.hid Nx
    have BW := Lib.hid NB
    clear NB Na Nb Nq Nr Nu Ns Nx
    refine (HSU.out _).mono ?_
    rintro e v8 ⟨rfl, z8⟩
    have Na := Lib.hid (Fa.out.on z8)
    have Nb := Lib.hid (Fb.out.on z8)
    have Nq := Lib.hid (Fq.out.on z8)
    have Nr := Lib.hid (Fr.out.on z8)
    have Nu := Lib.hid (Fu.out.on z8)
    have Ns := Lib.hid (Fs.out.on z8)
    have Nx := Lib.hid (Fx.out.on z8)
    have NB := Lib.hid (bel_tr BW.out z8)
    clear BW z8 Fa Fb Fq Fr Fu Fs Fx
    have Fa := Na
    have Fb := Nb
    have Fq := Nq
    have Fr := Nr
    have Fu := Nu
    have Fs := Ns
    have Fx := Nx
    have BW := NB
    clear NB Na Nb Nq Nr Nu Ns Nx
    have Ls := Fs.out.lt
    have cs0 := Fs.out.c0
    have cs1 := Fs.out.c1
    have cs2 := Fs.out.c2
    have cs3 := Fs.out.c3
    have fs0 : v8.frozen? ⟨gs, 0, none⟩ = false := Fs.out.frozen 0
    have fs1 : v8.frozen? ⟨gs, 1, none⟩ = false := Fs.out.frozen 1
    have fs2 : v8.frozen? ⟨gs, 2, none⟩ = false := Fs.out.frozen 2
    have fs3 : v8.frozen? ⟨gs, 3, none⟩ = false := Fs.out.frozen 3
    go_wp2_with fail
    generalize hW9 : ((((v8.setCell ⟨gs, 0, none⟩ (.int .u64 (wd D 0 : Nat))).setCell ⟨gs, 1, none⟩ (.int .u64 (wd D 1 : Nat))).setCell ⟨gs, 2, none⟩ (.int .u64 (wd D 2 : Nat))).setCell ⟨gs, 3, none⟩ (.int .u64 (wd D 3 : Nat))) = W9 at *
    clear Ls cs0 cs1 cs2 cs3 fs0 fs1 fs2 fs3
    have Na_0 := at_of hW9 ((Fa.out).far4 Das _ _ _ _)
    have Nb_0 := at_of hW9 ((Fb.out).far4 Dbs _ _ _ _)
    have Nq_0 := at_of hW9 ((Fq.out).far4 Dqs _ _ _ _)
    have Nr_0 := at_of hW9 ((Fr.out).far4 Drs _ _ _ _)
    have Nu_0 := at_of hW9 ((Fu.out).far4 Dus _ _ _ _)
    have Ns_0 := at_of hW9 ((Fs.out).put4 _ _ _ _)
    have Nx_0 := at_of hW9 ((Fx.out).far4 Dsx.symm _ _ _ _)
    have NB_0 := gr_of hW9 (((((BW.out).setCell Es _).setCell Es _).setCell Es _).setCell Es _)
    have Na := Na_0
    have Nb := Nb_0
    have Nq := Nq_0
    have Nr := Nr_0
    have Nu := Nu_0
    have Ns := Ns_0
    have Nx := Nx_0
    have NB := NB_0
    clear BW Fa Fb Fq Fr Fu Fs Fx Na_0 Nb_0 Nq_0 Nr_0 Nu_0 Ns_0 Nx_0 NB_0
    clear hW9
    have Fa := Lib.hid Na
    have Fb := Lib.hid Nb
    have Fq := Lib.hid Nq
    have Fr := Lib.hid Nr
    have Fu := Lib.hid Nu
    have Fs := Lib.hid Ns
    have Fx := Lib.hid Nx
    have BW := Lib.hid NB
    clear NB Na Nb Nq Nr Nu Ns Nx
    clear Fx
    obtain ⟨k, hk⟩ : ∃ k, k = j / 64 := ⟨_, rfl⟩
    obtain ⟨jb, hjb⟩ : ∃ jb, jb = j % 64 := ⟨_, rfl⟩
    obtain ⟨tt, htt⟩ : ∃ tt, tt = 2 ^ jb := ⟨_, rfl⟩
    obtain ⟨Y2, hY2⟩ : ∃ Y, Y = (2 * Q + 1) * 2 ^ j := ⟨_, rfl⟩
    obtain ⟨ai, hsm⟩ := add_in Q j k jb HJ.out hk hjb
    rw [← HX1.out, ← hY2] at ai hsm
    rw [← htt] at ai
    have k4 : k < 4 := by have := HJ.out; omega
    have jb64 : jb < 64 := by omega
    have nl := wd_lt Y2 k
    have HK := Lib.hid hk; have HJB := Lib.hid hjb; have HTT := Lib.hid htt; have HY2 := Lib.hid hY2; have HAI := Lib.hid ai; have HSM := Lib.hid hsm; have HK4 := Lib.hid k4; have HJ64 := Lib.hid jb64; have HNL := Lib.hid nl
    clear hk hjb htt hY2 ai hsm k4 jb64 nl
    try simp only [List.append_eq, List.cons_append, List.nil_append]
    refine wp_region_noPanic ?_
    refine wp_region_held_drew (S := fun w' => True) (by kernel_rfl) (trivial) (fun _ => ?_)
    refine wpAnyH_cores (fuel := 1) (⟨0, 67, [], Kind.val (.int .i64 (j : Nat)), true⟩ :: ⟨1, 68, [0], Kind.val (.int .i64 (k : Nat)), true⟩ :: ⟨2, 69, [], Kind.val (.int .i64 (j : Nat)), true⟩ :: ⟨3, 70, [2], Kind.val (.int .i64 (k : Nat)), true⟩ :: ⟨4, 71, [3], Kind.val (.pointer (some ⟨gu, k, none⟩)), true⟩ :: ⟨5, 72, [4], Kind.val (.int .u64 (wd X1 k : Nat)), false⟩ :: ⟨6, 73, [], Kind.val (.int .i64 (j : Nat)), true⟩ :: ⟨7, 74, [6], Kind.val (.int .i64 (jb : Nat)), true⟩ :: ⟨8, 75, [7], Kind.val (.int .u64 (tt : Nat)), true⟩ :: ⟨9, 76, [5, 8], Kind.val (.int .u64 (wd Y2 k : Nat)), true⟩ :: ⟨10, 77, [1], Kind.val (.pointer (some ⟨gu, k, none⟩)), true⟩ :: []) _ _ W9 _ ?_ ?_ ?_ ?_ ?_ ?_ ?_ ?_ ?_ ?_ ?_
    ·rfl
    ·kernel_rfl
    ·exact of_decide_eq_true rfl
    ·(repeat refine all_cons ⟨_, rfl, rfl⟩ ?_); exact all_nil
    ·exact fun _ hb => trivial
    ·exact (Below.refl _ _).drew
    ·kernel_rfl
    ·exact fun _ _ _ _ _ h => h
    ·(repeat (refine all_cons ?_ ?_; rotate_left)); exact all_nil
     ·exact core_move _ _ _ _ _ _ (by rfl) (by rfl) (ko 9)
     ·exact core_held2C _ _ _ _ _ _ _ _ _ _ (by rfl) (by rfl) (kc 0 67) (known_const _) (fun ρ w hx hy _ => quoI_run _ _ _ _ _ _ _ ρ w j k HK.out HJ.out hx hy)
     ·exact core_move _ _ _ _ _ _ (by rfl) (by rfl) (ko 9)
     ·exact core_held2C _ _ _ _ _ _ _ _ _ _ (by rfl) (by rfl) (kc 2 69) (known_const _) (fun ρ w hx hy _ => quoI_run _ _ _ _ _ _ _ ρ w j k HK.out HJ.out hx hy)
     ·exact core_held2C _ _ _ _ _ _ _ _ _ _ (by rfl) (by rfl) (ko 7) (kc 3 70) (fun ρ w hx hy _ => index_run _ _ _ _ _ _ _ ρ w gu k HK4.out hx hy)
     ·exact core_pureAs _ (by rfl)
     ·exact core_move _ _ _ _ _ _ (by rfl) (by rfl) (ko 9)
     ·exact core_held2C _ _ _ _ _ _ _ _ _ _ (by rfl) (by rfl) (kc 6 73) (known_const _) (fun ρ w hx hy _ => remI_run _ _ _ _ _ _ _ ρ w j jb HJB.out HJ.out hx hy)
     ·exact core_held2C _ _ _ _ _ _ _ _ _ _ (by rfl) (by rfl) (known_const _) (kc 7 74) (fun ρ w hx hy _ => shlI_run _ _ _ _ _ _ _ ρ w jb tt HJ64.out HTT.out hx hy)
     ·exact core_held2C _ _ _ _ _ _ _ _ _ _ (by rfl) (by rfl) (kc 5 72) (kc 8 75) (fun ρ w hx hy _ => addU_run _ _ _ _ _ _ _ ρ w (wd X1 k) tt (wd Y2 k) HAI.out HNL.out hx hy)
     ·exact core_held2C _ _ _ _ _ _ _ _ _ _ (by rfl) (by rfl) (ko 7) (kc 1 68) (fun ρ w hx hy _ => index_run _ _ _ _ _ _ _ ρ w gu k HK4.out hx hy)
    ·(repeat (refine all_cons ?_ ?_; rotate_left)); exact all_nil
     ·exact sA
     ·exact sA
     ·exact sA
     ·exact sA
     ·exact sA
     ·exact fun _ => core_step _ _ _ _ _ _ _ _ (by rfl) (by rfl) (kc 4 71) (fun ρ w hx hb => load64_run _ _ _ _ _ _ ρ w gu k _ hx ((Fu.out.on hb).word HK4.out))
     ·exact sA
     ·exact sA
     ·exact sA
     ·exact sA
     ·exact sA
    intro vs y10 hc
    obtain ⟨vv0, vv1, vv2, vv3, vv4, vv5, vv6, vv7, vv8, vv9, vv10, rfl⟩ := len11 vs hc.lv
    have qq0 := okv hc 0
    have qq1 := okv hc 1
    have qq2 := okv hc 2
    have qq3 := okv hc 3
    have qq4 := okv hc 4
    have qq5 := okv hc 5
    have qq6 := okv hc 6
    have qq7 := okv hc 7
    have qq8 := okv hc 8
    have qq9 := okv hc 9
    have qq10 := okv hc 10
    have BZ := hc.bel
    clear hc
    have Na := Fa.out.on BZ
    have Nb := Fb.out.on BZ
    have Nq := Fq.out.on BZ
    have Nr := Fr.out.on BZ
    have Nu := Fu.out.on BZ
    have Ns := Fs.out.on BZ
    have HSZ10 := BW.out.size
    have NB := bel_tr BW.out BZ
    clear BW BZ Fa Fb Fq Fr Fu Fs
    subst qq0 qq1 qq2 qq3 qq4 qq5 qq6 qq7 qq8 qq9 qq10
    simp only [List.map_cons, List.map_nil, over, Act.put, List.setIfInBounds_toArray, List.set_cons_zero, List.set_cons_succ]
    have OLD := Nu
    replace Na := At.far Na (p := ⟨gu, k, none⟩) Dau.symm (.int .u64 (wd Y2 k : Nat))
    replace Nb := At.far Nb (p := ⟨gu, k, none⟩) Dbu.symm (.int .u64 (wd Y2 k : Nat))
    replace Nq := At.far Nq (p := ⟨gu, k, none⟩) Dqu.symm (.int .u64 (wd Y2 k : Nat))
    replace Nr := At.far Nr (p := ⟨gu, k, none⟩) Dru.symm (.int .u64 (wd Y2 k : Nat))
    replace Ns := At.far Ns (p := ⟨gu, k, none⟩) Dus (.int .u64 (wd Y2 k : Nat))
    have NEWC : At (y10.setCell ⟨gu, k, none⟩ (.int .u64 (wd Y2 k : Nat))) gu 24 #[.int .u64 (wd Y2 0 : Nat), .int .u64 (wd Y2 1 : Nat), .int .u64 (wd Y2 2 : Nat), .int .u64 (wd Y2 3 : Nat)] := by
     have := At.set Nu k (.int .u64 (wd Y2 k : Nat))
     rw [set_cell X1 Y2 k (wd Y2 k) HK4.out rfl HSM.out] at this; exact this
    replace Nu := NEWC
    clear NEWC
    have NBC : Below w.heap.size w (y10.setCell ⟨gu, k, none⟩ (.int .u64 (wd Y2 k : Nat))) := NB.setCell Eu _
    replace NB := NBC
    clear NBC
    refine store_word (i := 11) _ _ _ _ _ gu k _ _ (by kernel_rfl) (by rfl) (by rfl) (by rfl) (OLD.lt) (OLD.word HK4.out) (OLD.frozen k) (trivial) ?_
    clear OLD
    generalize (y10.setCell ⟨gu, k, none⟩ (.int .u64 (wd Y2 k : Nat))) = y10_11 at *
    refine wpAnyH_done (by kernel_rfl) ?_ _
    refine NoPanic.normal ?_
    have Fa := Lib.hid Na
    have Fb := Lib.hid Nb
    have Fq := Lib.hid Nq
    have Fr := Lib.hid Nr
    have Fu := Lib.hid Nu
    have Fs := Lib.hid Ns
    have BW := Lib.hid NB
    clear NB Na Nb Nq Nr Nu Ns
    clear HSZ10
    go_wp2_with fail
    go_roundw
    case rel =>
     have Nu := Fu.out
     rw [HY2.out] at Nu
     first
      | exact ⟨j, 2 * Q + 1, D, by have := HJ.out; omega, by go_num, Fa.out, Fb.out, Fq.out, Fr.out, Nu, Fs.out, BW.out, HDL.out.1, HDL.out.2⟩
      | ((repeat apply Exists.intro); exact ⟨⟨j, 2 * Q + 1, D, by have := HJ.out; omega, by go_num, Fa.out, Fb.out, Fq.out, Fr.out, Nu, Fs.out, BW.out, HDL.out.1, HDL.out.2⟩, rfl⟩)
    case measure => (simp [intOf] <;> omega)
   ·by_cases hge : B ≤ U
    ·obtain ⟨D, l, hD, hl, he2, _⟩ := sub_ex U B hU256 hB256
     have SU := rsub_any U B D l hU256 hB256 hD hl he2
     have hrb := HRB.out; have tot := HTOT.out; have z1 := HZ1.out
     have hdl : D < B ∧ A / 2 ^ j = (2 * Q + 1) * B + D := by
      have a3 := HA3.out
      have e : (2 * Q + 1) * B = 2 * (Q * B) + B := by rw [Nat.add_mul, Nat.one_mul, Nat.mul_assoc]
      rw [e]; constructor <;> omega
     have CM := rcmp_any U B hU256 hB256
     obtain ⟨cv, hcv⟩ : ∃ cv, cv = cmpN U B := ⟨_, rfl⟩
     rw [← hcv] at CM
     have cv0 : 0 ≤ cv := by rw [hcv]; unfold cmpN; rw [if_neg (by omega)]; split <;> omega
     have HSU := Lib.hid SU; have HDL := Lib.hid hdl; have HCM := Lib.hid CM
     clear SU hdl hD hl he2 CM hcv hrb tot z1 hc hr256 hB256 hU256 hge
     have j0 : (0 : Int) ≤ (j : Int) := by omega
     have Ls := Fs.out.lt
     have cs0 := Fs.out.c0
     have cs1 := Fs.out.c1
     have cs2 := Fs.out.c2
     have cs3 := Fs.out.c3
     go_wp2_with fail
     clear Ls cs0 cs1 cs2 cs3
     refine (HAD.out _).mono ?_
     rintro e v4 ⟨rfl, z4⟩
     have Na := Lib.hid (Fa.out.on z4)
     have Nb := Lib.hid (Fb.out.on z4)
     have Nq := Lib.hid (Fq.out.on z4)
     have Nr := Lib.hid (Fr.out.on z4)
     have Nu := Lib.hid (Fu.out.on z4)
     have Ns := Lib.hid (Fs.out.on z4)
     have NB := Lib.hid (bel_tr BW.out z4)
     clear BW z4 Fa Fb Fq Fr Fu Fs
     have Fa := Na
     have Fb := Nb
     have Fq := Nq
     have Fr := Nr
     have Fu := Nu
     have Fs := Ns
     have BW := NB
     clear NB Na Nb Nq Nr Nu Ns
     go_wp2_with fail
     generalize hW5 : (v4.alloc (.cells #[.int .u64 (wd S 0 : Nat), .int .u64 (wd S 1 : Nat), .int .u64 (wd S 2 : Nat), .int .u64 (wd S 3 : Nat)] 24)) = W5 at *
     have Nx : At W5 (v4.heap.size) _ _ := at_of hW5 (At.at_ _ _ _ _ (by simp))
     have Ex : w.heap.size ≤ v4.heap.size := by have := BW.out.size; omega
     have Dax : ga ≠ v4.heap.size := by have := Fa.out.lt; omega
     have Dbx : gb ≠ v4.heap.size := by have := Fb.out.lt; omega
     have Dqx : gq ≠ v4.heap.size := by have := Fq.out.lt; omega
     have Drx : gr ≠ v4.heap.size := by have := Fr.out.lt; omega
     have Dux : gu ≠ v4.heap.size := by have := Fu.out.lt; omega
     have Dsx : gs ≠ v4.heap.size := by have := Fs.out.lt; omega
     have Na := at_of hW5 (Fa.out.alloc _)
     have Nb := at_of hW5 (Fb.out.alloc _)
     have Nq := at_of hW5 (Fq.out.alloc _)
     have Nr := at_of hW5 (Fr.out.alloc _)
     have Nu := at_of hW5 (Fu.out.alloc _)
     have Ns := at_of hW5 (Fs.out.alloc _)
     have NB := gr_of hW5 (gr_alloc BW.out _)
     clear BW Fa Fb Fq Fr Fu Fs
     clear hW5
     generalize v4.heap.size = gx at *
     have Fa := Lib.hid Na
     have Fb := Lib.hid Nb
     have Fq := Lib.hid Nq
     have Fr := Lib.hid Nr
     have Fu := Lib.hid Nu
     have Fs := Lib.hid Ns
     have Fx := Lib.hid Nx
     have BW := Lib.hid NB
     clear NB Na Nb Nq Nr Nu Ns Nx
     try simp only [List.append_eq, List.cons_append, List.nil_append]
     refine wp_region_noPanic ?_
     refine wp_region_held_drew (S := fun w' => True) (by kernel_rfl) (trivial) (fun _ => ?_)
     refine wpAnyH_cores (fuel := 1) (⟨0, 45, [], Kind.val (.pointer (some ⟨gx, 0, none⟩)), true⟩ :: ⟨1, 46, [0], Kind.val (.int .u64 (wd S 0 : Nat)), false⟩ :: ⟨2, 47, [], Kind.val (.agg #[.int .u64 (wd A 0 : Nat), .int .u64 (wd A 1 : Nat), .int .u64 (wd A 2 : Nat), .int .u64 (wd A 3 : Nat)]), false⟩ :: ⟨3, 48, [], Kind.val (.int .i64 (j : Nat)), true⟩ :: ⟨4, 49, [2, 3], Kind.val (.int .u64 (z : Nat)), false⟩ :: ⟨5, 50, [1, 4], Kind.val (.int .u64 (wd U 0 : Nat)), true⟩ :: ⟨6, 51, [], Kind.val (.pointer (some ⟨gx, 0, none⟩)), true⟩ :: []) _ _ W5 _ ?_ ?_ ?_ ?_ ?_ ?_ ?_ ?_ ?_ ?_ ?_
     ·rfl
     ·kernel_rfl
     ·exact of_decide_eq_true rfl
     ·(repeat refine all_cons ⟨_, rfl, rfl⟩ ?_); exact all_nil
     ·exact fun _ hb => trivial
     ·exact (Below.refl _ _).drew
     ·kernel_rfl
     ·exact fun _ _ _ _ _ h => h
     ·(repeat (refine all_cons ?_ ?_; rotate_left)); exact all_nil
      ·exact core_held2C _ _ _ _ _ _ _ _ _ _ (by rfl) (by rfl) (ko 10) (known_const _) (fun ρ w hx hy _ => index_run _ _ _ _ _ _ _ ρ w gx 0 (by decide) hx hy)
      ·exact core_pureAs _ (by rfl)
      ·exact core_pureAs _ (by rfl)
      ·exact core_move _ _ _ _ _ _ (by rfl) (by rfl) (ko 9)
      ·exact core_pureAs _ (by rfl)
      ·exact core_held2C _ _ _ _ _ _ _ _ _ _ (by rfl) (by rfl) (kc 1 46) (kc 4 49) (fun ρ w hx hy _ => addU_run _ _ _ _ _ _ _ ρ w (wd S 0) z (wd U 0) HU0.out HUL.out hx hy)
      ·exact core_held2C _ _ _ _ _ _ _ _ _ _ (by rfl) (by rfl) (ko 10) (known_const _) (fun ρ w hx hy _ => index_run _ _ _ _ _ _ _ ρ w gx 0 (by decide) hx hy)
     ·(repeat (refine all_cons ?_ ?_; rotate_left)); exact all_nil
      ·exact sA
      ·exact fun _ => core_step _ _ _ _ _ _ _ _ (by rfl) (by rfl) (kc 0 45) (fun ρ w hx hb => load64_run _ _ _ _ _ _ ρ w gx 0 _ hx ((Fx.out.on hb).cell 0))
      ·exact fun _ => core_load _ _ _ _ _ ga _ _ _ _ (by rfl) (by rfl) (ko 2) Fa.out
      ·exact sA
      ·exact fun _ => core_call _ 66 _ _ [.tmp 47, .tmp 48] _ _ _ _ _ _ (by rfl) Try.func66 (by kernel_rfl) (by rfl) (by rfl) (.cons (kc 2 47) (.cons (kc 3 48) .nil)) (HBT.out)
      ·exact sA
      ·exact sA
     intro vs y6 hc
     obtain ⟨vv0, vv1, vv2, vv3, vv4, vv5, vv6, rfl⟩ := len7 vs hc.lv
     have qq0 := okv hc 0
     have qq1 := okv hc 1
     have qq2 := okv hc 2
     have qq3 := okv hc 3
     have qq4 := okv hc 4
     have qq5 := okv hc 5
     have qq6 := okv hc 6
     have BZ := hc.bel
     clear hc
     have Na := Fa.out.on BZ
     have Nb := Fb.out.on BZ
     have Nq := Fq.out.on BZ
     have Nr := Fr.out.on BZ
     have Nu := Fu.out.on BZ
     have Ns := Fs.out.on BZ
     have Nx := Fx.out.on BZ
     have HSZ6 := BW.out.size
     have NB := bel_tr BW.out BZ
     clear BW BZ Fa Fb Fq Fr Fu Fs Fx
     subst qq0 qq1 qq2 qq3 qq4 qq5 qq6
     simp only [List.map_cons, List.map_nil, over, Act.put, List.setIfInBounds_toArray, List.set_cons_zero, List.set_cons_succ]
     have OLD := Nx
     replace Na := At.far Na (p := ⟨gx, 0, none⟩) Dax.symm (.int .u64 (wd U 0 : Nat))
     replace Nb := At.far Nb (p := ⟨gx, 0, none⟩) Dbx.symm (.int .u64 (wd U 0 : Nat))
     replace Nq := At.far Nq (p := ⟨gx, 0, none⟩) Dqx.symm (.int .u64 (wd U 0 : Nat))
     replace Nr := At.far Nr (p := ⟨gx, 0, none⟩) Drx.symm (.int .u64 (wd U 0 : Nat))
     replace Nu := At.far Nu (p := ⟨gx, 0, none⟩) Dux.symm (.int .u64 (wd U 0 : Nat))
     replace Ns := At.far Ns (p := ⟨gx, 0, none⟩) Dsx.symm (.int .u64 (wd U 0 : Nat))
     have NEWC : At (y6.setCell ⟨gx, 0, none⟩ (.int .u64 (wd U 0 : Nat))) gx 24 #[.int .u64 (wd U 0 : Nat), .int .u64 (wd U 1 : Nat), .int .u64 (wd U 2 : Nat), .int .u64 (wd U 3 : Nat)] := by
      have := At.set Nx 0 (.int .u64 (wd U 0 : Nat))
      rw [set_cell S U 0 (wd U 0) (by decide) rfl HSAME.out] at this; exact this
     replace Nx := NEWC
     clear NEWC
     have NBC : Below w.heap.size w (y6.setCell ⟨gx, 0, none⟩ (.int .u64 (wd U 0 : Nat))) := NB.setCell Ex _
     replace NB := NBC
     clear NBC
     refine store_word (i := 7) _ _ _ _ _ gx 0 _ _ (by kernel_rfl) (by rfl) (by rfl) (by rfl) (OLD.lt) (OLD.cell 0) (OLD.frozen 0) (trivial) ?_
     clear OLD
     generalize (y6.setCell ⟨gx, 0, none⟩ (.int .u64 (wd U 0 : Nat))) = y6_7 at *
     refine wpAnyH_done (by kernel_rfl) ?_ _
     refine NoPanic.normal ?_
     have Fa := Lib.hid Na
     have Fb := Lib.hid Nb
     have Fq := Lib.hid Nq
     have Fr := Lib.hid Nr
     have Fu := Lib.hid Nu
     have Fs := Lib.hid Ns
     have Fx := Lib.hid Nx
     have BW := Lib.hid NB
     clear NB Na Nb Nq Nr Nu Ns Nx
     clear HSZ6
     have Lx := Fx.out.lt
     have cx0 := Fx.out.c0
     have cx1 := Fx.out.c1
     have cx2 := Fx.out.c2
     have cx3 := Fx.out.c3
     have Lb := Fb.out.lt
     have cb0 := Fb.out.c0
     have cb1 := Fb.out.c1
     have cb2 := Fb.out.c2
     have cb3 := Fb.out.c3
     have Ls := Fs.out.lt
     have cs0 := Fs.out.c0
     have cs1 := Fs.out.c1
     have cs2 := Fs.out.c2
     have cs3 := Fs.out.c3
     have fs0 : y6_7.frozen? ⟨gs, 0, none⟩ = false := Fs.out.frozen 0
     have fs1 : y6_7.frozen? ⟨gs, 1, none⟩ = false := Fs.out.frozen 1
     have fs2 : y6_7.frozen? ⟨gs, 2, none⟩ = false := Fs.out.frozen 2
     have fs3 : y6_7.frozen? ⟨gs, 3, none⟩ = false := Fs.out.frozen 3
     go_wp2_with fail
     generalize hW7 : ((((y6_7.setCell ⟨gs, 0, none⟩ (.int .u64 (wd U 0 : Nat))).setCell ⟨gs, 1, none⟩ (.int .u64 (wd U 1 : Nat))).setCell ⟨gs, 2, none⟩ (.int .u64 (wd U 2 : Nat))).setCell ⟨gs, 3, none⟩ (.int .u64 (wd U 3 : Nat))) = W7 at *
     clear Lx cx0 cx1 cx2 cx3 Lb cb0 cb1 cb2 cb3 Ls cs0 cs1 cs2 cs3 fs0 fs1 fs2 fs3
     have Na_0 := at_of hW7 ((Fa.out).far4 Das _ _ _ _)
     have Nb_0 := at_of hW7 ((Fb.out).far4 Dbs _ _ _ _)
     have Nq_0 := at_of hW7 ((Fq.out).far4 Dqs _ _ _ _)
     have Nr_0 := at_of hW7 ((Fr.out).far4 Drs _ _ _ _)
     have Nu_0 := at_of hW7 ((Fu.out).far4 Dus _ _ _ _)
     have Ns_0 := at_of hW7 ((Fs.out).put4 _ _ _ _)
     have Nx_0 := at_of hW7 ((Fx.out).far4 Dsx.symm _ _ _ _)
     have NB_0 := gr_of hW7 (((((BW.out).setCell Es _).setCell Es _).setCell Es _).setCell Es _)
     have Na := Na_0
     have Nb := Nb_0
     have Nq := Nq_0
     have Nr := Nr_0
     have Nu := Nu_0
     have Ns := Ns_0
     have Nx := Nx_0
     have NB := NB_0
     clear BW Fa Fb Fq Fr Fu Fs Fx Na_0 Nb_0 Nq_0 Nr_0 Nu_0 Ns_0 Nx_0 NB_0
     clear hW7
     have Fa := Lib.hid Na
     have Fb := Lib.hid Nb
     have Fq := Lib.hid Nq
     have Fr := Lib.hid Nr
     have Fu := Lib.hid Nu
     have Fs := Lib.hid Ns
     have Fx := Lib.hid Nx
     have BW := Lib.hid NB
     clear NB Na Nb Nq Nr Nu Ns Nx
     refine (HCM.out _).mono ?_
     rintro e v8 ⟨rfl, z8⟩
     have Na := Lib.hid (Fa.out.on z8)
     have Nb := Lib.hid (Fb.out.on z8)
     have Nq := Lib.hid (Fq.out.on z8)
     have Nr := Lib.hid (Fr.out.on z8)
     have Nu := Lib.hid (Fu.out.on z8)
     have Ns := Lib.hid (Fs.out.on z8)
     have Nx := Lib.hid (Fx.out.on z8)
     have NB := Lib.hid (bel_tr BW.out z8)
     clear BW z8 Fa Fb Fq Fr Fu Fs Fx
     have Fa := Na
     have Fb := Nb
     have Fq := Nq
     have Fr := Nr
     have Fu := Nu
     have Fs := Ns
     have Fx := Nx
     have BW := NB
     clear NB Na Nb Nq Nr Nu Ns Nx
     have Ls := Fs.out.lt
     have cs0 := Fs.out.c0
     have cs1 := Fs.out.c1
     have cs2 := Fs.out.c2
     have cs3 := Fs.out.c3
     have Lb := Fb.out.lt
     have cb0 := Fb.out.c0
     have cb1 := Fb.out.c1
     have cb2 := Fb.out.c2
     have cb3 := Fb.out.c3
     go_wp2_with fail
     clear Ls cs0 cs1 cs2 cs3 Lb cb0 cb1 cb2 cb3
     refine (HSU.out _).mono ?_
     rintro e v9 ⟨rfl, z9⟩
     have Na := Lib.hid (Fa.out.on z9)
     have Nb := Lib.hid (Fb.out.on z9)
     have Nq := Lib.hid (Fq.out.on z9)
     have Nr := Lib.hid (Fr.out.on z9)
     have Nu := Lib.hid (Fu.out.on z9)
     have Ns := Lib.hid (Fs.out.on z9)
     have Nx := Lib.hid (Fx.out.on z9)
     have NB := Lib.hid (bel_tr BW.out z9)
     clear BW z9 Fa Fb Fq Fr Fu Fs Fx
     have Fa := Na
     have Fb := Nb
     have Fq := Nq
     have Fr := Nr
     have Fu := Nu
     have Fs := Ns
     have Fx := Nx
     have BW := NB
     clear NB Na Nb Nq Nr Nu Ns Nx
     have Ls := Fs.out.lt
     have cs0 := Fs.out.c0
     have cs1 := Fs.out.c1
     have cs2 := Fs.out.c2
     have cs3 := Fs.out.c3
     have fs0 : v9.frozen? ⟨gs, 0, none⟩ = false := Fs.out.frozen 0
     have fs1 : v9.frozen? ⟨gs, 1, none⟩ = false := Fs.out.frozen 1
     have fs2 : v9.frozen? ⟨gs, 2, none⟩ = false := Fs.out.frozen 2
     have fs3 : v9.frozen? ⟨gs, 3, none⟩ = false := Fs.out.frozen 3
     go_wp2_with fail
     generalize hW10 : ((((v9.setCell ⟨gs, 0, none⟩ (.int .u64 (wd D 0 : Nat))).setCell ⟨gs, 1, none⟩ (.int .u64 (wd D 1 : Nat))).setCell ⟨gs, 2, none⟩ (.int .u64 (wd D 2 : Nat))).setCell ⟨gs, 3, none⟩ (.int .u64 (wd D 3 : Nat))) = W10 at *
     clear Ls cs0 cs1 cs2 cs3 fs0 fs1 fs2 fs3
     have Na_0 := at_of hW10 ((Fa.out).far4 Das _ _ _ _)
     have Nb_0 := at_of hW10 ((Fb.out).far4 Dbs _ _ _ _)
     have Nq_0 := at_of hW10 ((Fq.out).far4 Dqs _ _ _ _)
     have Nr_0 := at_of hW10 ((Fr.out).far4 Drs _ _ _ _)
     have Nu_0 := at_of hW10 ((Fu.out).far4 Dus _ _ _ _)
     have Ns_0 := at_of hW10 ((Fs.out).put4 _ _ _ _)
     have Nx_0 := at_of hW10 ((Fx.out).far4 Dsx.symm _ _ _ _)
     have NB_0 := gr_of hW10 (((((BW.out).setCell Es _).setCell Es _).setCell Es _).setCell Es _)
     have Na := Na_0
     have Nb := Nb_0
     have Nq := Nq_0
     have Nr := Nr_0
     have Nu := Nu_0
     have Ns := Ns_0
     have Nx := Nx_0
     have NB := NB_0
     clear BW Fa Fb Fq Fr Fu Fs Fx Na_0 Nb_0 Nq_0 Nr_0 Nu_0 Ns_0 Nx_0 NB_0
     clear hW10
     have Fa := Lib.hid Na
     have Fb := Lib.hid Nb
     have Fq := Lib.hid Nq
     have Fr := Lib.hid Nr
     have Fu := Lib.hid Nu
     have Fs := Lib.hid Ns
     have Fx := Lib.hid Nx
     have BW := Lib.hid NB
     clear NB Na Nb Nq Nr Nu Ns Nx
     clear Fx
     obtain ⟨k, hk⟩ : ∃ k, k = j / 64 := ⟨_, rfl⟩
     obtain ⟨jb, hjb⟩ : ∃ jb, jb = j % 64 := ⟨_, rfl⟩
     obtain ⟨tt, htt⟩ : ∃ tt, tt = 2 ^ jb := ⟨_, rfl⟩
     obtain ⟨Y2, hY2⟩ : ∃ Y, Y = (2 * Q + 1) * 2 ^ j := ⟨_, rfl⟩
     obtain ⟨ai, hsm⟩ := add_in Q j k jb HJ.out hk hjb
     rw [← HX1.out, ← hY2] at ai hsm
     rw [← htt] at ai
     have k4 : k < 4 := by have := HJ.out; omega
     have jb64 : jb < 64 := by omega
     have nl := wd_lt Y2 k
     have HK := Lib.hid hk; have HJB := Lib.hid hjb; have HTT := Lib.hid htt; have HY2 := Lib.hid hY2; have HAI := Lib.hid ai; have HSM := Lib.hid hsm; have HK4 := Lib.hid k4; have HJ64 := Lib.hid jb64; have HNL := Lib.hid nl
     clear hk hjb htt hY2 ai hsm k4 jb64 nl
     try simp only [List.append_eq, List.cons_append, List.nil_append]
     refine wp_region_noPanic ?_
     refine wp_region_held_drew (S := fun w' => True) (by kernel_rfl) (trivial) (fun _ => ?_)
     refine wpAnyH_cores (fuel := 1) (⟨0, 67, [], Kind.val (.int .i64 (j : Nat)), true⟩ :: ⟨1, 68, [0], Kind.val (.int .i64 (k : Nat)), true⟩ :: ⟨2, 69, [], Kind.val (.int .i64 (j : Nat)), true⟩ :: ⟨3, 70, [2], Kind.val (.int .i64 (k : Nat)), true⟩ :: ⟨4, 71, [3], Kind.val (.pointer (some ⟨gu, k, none⟩)), true⟩ :: ⟨5, 72, [4], Kind.val (.int .u64 (wd X1 k : Nat)), false⟩ :: ⟨6, 73, [], Kind.val (.int .i64 (j : Nat)), true⟩ :: ⟨7, 74, [6], Kind.val (.int .i64 (jb : Nat)), true⟩ :: ⟨8, 75, [7], Kind.val (.int .u64 (tt : Nat)), true⟩ :: ⟨9, 76, [5, 8], Kind.val (.int .u64 (wd Y2 k : Nat)), true⟩ :: ⟨10, 77, [1], Kind.val (.pointer (some ⟨gu, k, none⟩)), true⟩ :: []) _ _ W10 _ ?_ ?_ ?_ ?_ ?_ ?_ ?_ ?_ ?_ ?_ ?_
     ·rfl
     ·kernel_rfl
     ·exact of_decide_eq_true rfl
     ·(repeat refine all_cons ⟨_, rfl, rfl⟩ ?_); exact all_nil
     ·exact fun _ hb => trivial
     ·exact (Below.refl _ _).drew
     ·kernel_rfl
     ·exact fun _ _ _ _ _ h => h
     ·(repeat (refine all_cons ?_ ?_; rotate_left)); exact all_nil
      ·exact core_move _ _ _ _ _ _ (by rfl) (by rfl) (ko 9)
      ·exact core_held2C _ _ _ _ _ _ _ _ _ _ (by rfl) (by rfl) (kc 0 67) (known_const _) (fun ρ w hx hy _ => quoI_run _ _ _ _ _ _ _ ρ w j k HK.out HJ.out hx hy)
      ·exact core_move _ _ _ _ _ _ (by rfl) (by rfl) (ko 9)
      ·exact core_held2C _ _ _ _ _ _ _ _ _ _ (by rfl) (by rfl) (kc 2 69) (known_const _) (fun ρ w hx hy _ => quoI_run _ _ _ _ _ _ _ ρ w j k HK.out HJ.out hx hy)
      ·exact core_held2C _ _ _ _ _ _ _ _ _ _ (by rfl) (by rfl) (ko 7) (kc 3 70) (fun ρ w hx hy _ => index_run _ _ _ _ _ _ _ ρ w gu k HK4.out hx hy)
      ·exact core_pureAs _ (by rfl)
      ·exact core_move _ _ _ _ _ _ (by rfl) (by rfl) (ko 9)
      ·exact core_held2C _ _ _ _ _ _ _ _ _ _ (by rfl) (by rfl) (kc 6 73) (known_const _) (fun ρ w hx hy _ => remI_run _ _ _ _ _ _ _ ρ w j jb HJB.out HJ.out hx hy)
      ·exact core_held2C _ _ _ _ _ _ _ _ _ _ (by rfl) (by rfl) (known_const _) (kc 7 74) (fun ρ w hx hy _ => shlI_run _ _ _ _ _ _ _ ρ w jb tt HJ64.out HTT.out hx hy)
      ·exact core_held2C _ _ _ _ _ _ _ _ _ _ (by rfl) (by rfl) (kc 5 72) (kc 8 75) (fun ρ w hx hy _ => addU_run _ _ _ _ _ _ _ ρ w (wd X1 k) tt (wd Y2 k) HAI.out HNL.out hx hy)
      ·exact core_held2C _ _ _ _ _ _ _ _ _ _ (by rfl) (by rfl) (ko 7) (kc 1 68) (fun ρ w hx hy _ => index_run _ _ _ _ _ _ _ ρ w gu k HK4.out hx hy)
     ·(repeat (refine all_cons ?_ ?_; rotate_left)); exact all_nil
      ·exact sA
      ·exact sA
      ·exact sA
      ·exact sA
      ·exact sA
      ·exact fun _ => core_step _ _ _ _ _ _ _ _ (by rfl) (by rfl) (kc 4 71) (fun ρ w hx hb => load64_run _ _ _ _ _ _ ρ w gu k _ hx ((Fu.out.on hb).word HK4.out))
      ·exact sA
      ·exact sA
      ·exact sA
      ·exact sA
      ·exact sA
     intro vs y11 hc
     obtain ⟨vv0, vv1, vv2, vv3, vv4, vv5, vv6, vv7, vv8, vv9, vv10, rfl⟩ := len11 vs hc.lv
     have qq0 := okv hc 0
     have qq1 := okv hc 1
     have qq2 := okv hc 2
     have qq3 := okv hc 3
     have qq4 := okv hc 4
     have qq5 := okv hc 5
     have qq6 := okv hc 6
     have qq7 := okv hc 7
     have qq8 := okv hc 8
     have qq9 := okv hc 9
     have qq10 := okv hc 10
     have BZ := hc.bel
     clear hc
     have Na := Fa.out.on BZ
     have Nb := Fb.out.on BZ
     have Nq := Fq.out.on BZ
     have Nr := Fr.out.on BZ
     have Nu := Fu.out.on BZ
     have Ns := Fs.out.on BZ
     have HSZ11 := BW.out.size
     have NB := bel_tr BW.out BZ
     clear BW BZ Fa Fb Fq Fr Fu Fs
     subst qq0 qq1 qq2 qq3 qq4 qq5 qq6 qq7 qq8 qq9 qq10
     simp only [List.map_cons, List.map_nil, over, Act.put, List.setIfInBounds_toArray, List.set_cons_zero, List.set_cons_succ]
     have OLD := Nu
     replace Na := At.far Na (p := ⟨gu, k, none⟩) Dau.symm (.int .u64 (wd Y2 k : Nat))
     replace Nb := At.far Nb (p := ⟨gu, k, none⟩) Dbu.symm (.int .u64 (wd Y2 k : Nat))
     replace Nq := At.far Nq (p := ⟨gu, k, none⟩) Dqu.symm (.int .u64 (wd Y2 k : Nat))
     replace Nr := At.far Nr (p := ⟨gu, k, none⟩) Dru.symm (.int .u64 (wd Y2 k : Nat))
     replace Ns := At.far Ns (p := ⟨gu, k, none⟩) Dus (.int .u64 (wd Y2 k : Nat))
     have NEWC : At (y11.setCell ⟨gu, k, none⟩ (.int .u64 (wd Y2 k : Nat))) gu 24 #[.int .u64 (wd Y2 0 : Nat), .int .u64 (wd Y2 1 : Nat), .int .u64 (wd Y2 2 : Nat), .int .u64 (wd Y2 3 : Nat)] := by
      have := At.set Nu k (.int .u64 (wd Y2 k : Nat))
      rw [set_cell X1 Y2 k (wd Y2 k) HK4.out rfl HSM.out] at this; exact this
     replace Nu := NEWC
     clear NEWC
     have NBC : Below w.heap.size w (y11.setCell ⟨gu, k, none⟩ (.int .u64 (wd Y2 k : Nat))) := NB.setCell Eu _
     replace NB := NBC
     clear NBC
     refine store_word (i := 11) _ _ _ _ _ gu k _ _ (by kernel_rfl) (by rfl) (by rfl) (by rfl) (OLD.lt) (OLD.word HK4.out) (OLD.frozen k) (trivial) ?_
     clear OLD
     generalize (y11.setCell ⟨gu, k, none⟩ (.int .u64 (wd Y2 k : Nat))) = y11_11 at *
     refine wpAnyH_done (by kernel_rfl) ?_ _
     refine NoPanic.normal ?_
     have Fa := Lib.hid Na
     have Fb := Lib.hid Nb
     have Fq := Lib.hid Nq
     have Fr := Lib.hid Nr
     have Fu := Lib.hid Nu
     have Fs := Lib.hid Ns
     have BW := Lib.hid NB
     clear NB Na Nb Nq Nr Nu Ns
     clear HSZ11
     go_wp2_with fail
     go_roundw
     case rel =>
      have Nu := Fu.out
      rw [HY2.out] at Nu
      first
       | exact ⟨j, 2 * Q + 1, D, by have := HJ.out; omega, by go_num, Fa.out, Fb.out, Fq.out, Fr.out, Nu, Fs.out, BW.out, HDL.out.1, HDL.out.2⟩
       | ((repeat apply Exists.intro); exact ⟨⟨j, 2 * Q + 1, D, by have := HJ.out; omega, by go_num, Fa.out, Fb.out, Fq.out, Fr.out, Nu, Fs.out, BW.out, HDL.out.1, HDL.out.2⟩, rfl⟩)
     case measure => (simp [intOf] <;> omega)
    ·have hdl : U < B ∧ A / 2 ^ j = (2 * Q + 0) * B + U := by
      have a3 := HA3.out
      have e : (2 * Q + 0) * B = 2 * (Q * B) := by rw [Nat.add_zero, Nat.mul_assoc]
      rw [e]; constructor <;> omega
     have CM := rcmp_any U B hU256 hB256
     have cvn : cmpN U B = -1 := cmpN_lt (by omega)
     rw [cvn] at CM
     have HDL := Lib.hid hdl; have HCM := Lib.hid CM
     clear hdl CM cvn hc hr256 hB256 hU256 hge
     have j0 : (0 : Int) ≤ (j : Int) := by omega
     have Ls := Fs.out.lt
     have cs0 := Fs.out.c0
     have cs1 := Fs.out.c1
     have cs2 := Fs.out.c2
     have cs3 := Fs.out.c3
     go_wp2_with fail
     clear Ls cs0 cs1 cs2 cs3
     refine (HAD.out _).mono ?_
     rintro e v4 ⟨rfl, z4⟩
     have Na := Lib.hid (Fa.out.on z4)
     have Nb := Lib.hid (Fb.out.on z4)
     have Nq := Lib.hid (Fq.out.on z4)
     have Nr := Lib.hid (Fr.out.on z4)
     have Nu := Lib.hid (Fu.out.on z4)
     have Ns := Lib.hid (Fs.out.on z4)
     have NB := Lib.hid (bel_tr BW.out z4)
     clear BW z4 Fa Fb Fq Fr Fu Fs
     have Fa := Na
     have Fb := Nb
     have Fq := Nq
     have Fr := Nr
     have Fu := Nu
     have Fs := Ns
     have BW := NB
     clear NB Na Nb Nq Nr Nu Ns
     go_wp2_with fail
     generalize hW5 : (v4.alloc (.cells #[.int .u64 (wd S 0 : Nat), .int .u64 (wd S 1 : Nat), .int .u64 (wd S 2 : Nat), .int .u64 (wd S 3 : Nat)] 24)) = W5 at *
     have Nx : At W5 (v4.heap.size) _ _ := at_of hW5 (At.at_ _ _ _ _ (by simp))
     have Ex : w.heap.size ≤ v4.heap.size := by have := BW.out.size; omega
     have Dax : ga ≠ v4.heap.size := by have := Fa.out.lt; omega
     have Dbx : gb ≠ v4.heap.size := by have := Fb.out.lt; omega
     have Dqx : gq ≠ v4.heap.size := by have := Fq.out.lt; omega
     have Drx : gr ≠ v4.heap.size := by have := Fr.out.lt; omega
     have Dux : gu ≠ v4.heap.size := by have := Fu.out.lt; omega
     have Dsx : gs ≠ v4.heap.size := by have := Fs.out.lt; omega
     have Na := at_of hW5 (Fa.out.alloc _)
     have Nb := at_of hW5 (Fb.out.alloc _)
     have Nq := at_of hW5 (Fq.out.alloc _)
     have Nr := at_of hW5 (Fr.out.alloc _)
     have Nu := at_of hW5 (Fu.out.alloc _)
     have Ns := at_of hW5 (Fs.out.alloc _)
     have NB := gr_of hW5 (gr_alloc BW.out _)
     clear BW Fa Fb Fq Fr Fu Fs
     clear hW5
     generalize v4.heap.size = gx at *
     have Fa := Lib.hid Na
     have Fb := Lib.hid Nb
     have Fq := Lib.hid Nq
     have Fr := Lib.hid Nr
     have Fu := Lib.hid Nu
     have Fs := Lib.hid Ns
     have Fx := Lib.hid Nx
     have BW := Lib.hid NB
     clear NB Na Nb Nq Nr Nu Ns Nx
     try simp only [List.append_eq, List.cons_append, List.nil_append]
     refine wp_region_noPanic ?_
     refine wp_region_held_drew (S := fun w' => True) (by kernel_rfl) (trivial) (fun _ => ?_)
     refine wpAnyH_cores (fuel := 1) (⟨0, 45, [], Kind.val (.pointer (some ⟨gx, 0, none⟩)), true⟩ :: ⟨1, 46, [0], Kind.val (.int .u64 (wd S 0 : Nat)), false⟩ :: ⟨2, 47, [], Kind.val (.agg #[.int .u64 (wd A 0 : Nat), .int .u64 (wd A 1 : Nat), .int .u64 (wd A 2 : Nat), .int .u64 (wd A 3 : Nat)]), false⟩ :: ⟨3, 48, [], Kind.val (.int .i64 (j : Nat)), true⟩ :: ⟨4, 49, [2, 3], Kind.val (.int .u64 (z : Nat)), false⟩ :: ⟨5, 50, [1, 4], Kind.val (.int .u64 (wd U 0 : Nat)), true⟩ :: ⟨6, 51, [], Kind.val (.pointer (some ⟨gx, 0, none⟩)), true⟩ :: []) _ _ W5 _ ?_ ?_ ?_ ?_ ?_ ?_ ?_ ?_ ?_ ?_ ?_
     ·rfl
     ·kernel_rfl
     ·exact of_decide_eq_true rfl
     ·(repeat refine all_cons ⟨_, rfl, rfl⟩ ?_); exact all_nil
     ·exact fun _ hb => trivial
     ·exact (Below.refl _ _).drew
     ·kernel_rfl
     ·exact fun _ _ _ _ _ h => h
     ·(repeat (refine all_cons ?_ ?_; rotate_left)); exact all_nil
      ·exact core_held2C _ _ _ _ _ _ _ _ _ _ (by rfl) (by rfl) (ko 10) (known_const _) (fun ρ w hx hy _ => index_run _ _ _ _ _ _ _ ρ w gx 0 (by decide) hx hy)
      ·exact core_pureAs _ (by rfl)
      ·exact core_pureAs _ (by rfl)
      ·exact core_move _ _ _ _ _ _ (by rfl) (by rfl) (ko 9)
      ·exact core_pureAs _ (by rfl)
      ·exact core_held2C _ _ _ _ _ _ _ _ _ _ (by rfl) (by rfl) (kc 1 46) (kc 4 49) (fun ρ w hx hy _ => addU_run _ _ _ _ _ _ _ ρ w (wd S 0) z (wd U 0) HU0.out HUL.out hx hy)
      ·exact core_held2C _ _ _ _ _ _ _ _ _ _ (by rfl) (by rfl) (ko 10) (known_const _) (fun ρ w hx hy _ => index_run _ _ _ _ _ _ _ ρ w gx 0 (by decide) hx hy)
     ·(repeat (refine all_cons ?_ ?_; rotate_left)); exact all_nil
      ·exact sA
      ·exact fun _ => core_step _ _ _ _ _ _ _ _ (by rfl) (by rfl) (kc 0 45) (fun ρ w hx hb => load64_run _ _ _ _ _ _ ρ w gx 0 _ hx ((Fx.out.on hb).cell 0))
      ·exact fun _ => core_load _ _ _ _ _ ga _ _ _ _ (by rfl) (by rfl) (ko 2) Fa.out
      ·exact sA
      ·exact fun _ => core_call _ 66 _ _ [.tmp 47, .tmp 48] _ _ _ _ _ _ (by rfl) Try.func66 (by kernel_rfl) (by rfl) (by rfl) (.cons (kc 2 47) (.cons (kc 3 48) .nil)) (HBT.out)
      ·exact sA
      ·exact sA
     intro vs y6 hc
     obtain ⟨vv0, vv1, vv2, vv3, vv4, vv5, vv6, rfl⟩ := len7 vs hc.lv
     have qq0 := okv hc 0
     have qq1 := okv hc 1
     have qq2 := okv hc 2
     have qq3 := okv hc 3
     have qq4 := okv hc 4
     have qq5 := okv hc 5
     have qq6 := okv hc 6
     have BZ := hc.bel
     clear hc
     have Na := Fa.out.on BZ
     have Nb := Fb.out.on BZ
     have Nq := Fq.out.on BZ
     have Nr := Fr.out.on BZ
     have Nu := Fu.out.on BZ
     have Ns := Fs.out.on BZ
     have Nx := Fx.out.on BZ
     have HSZ6 := BW.out.size
     have NB := bel_tr BW.out BZ
     clear BW BZ Fa Fb Fq Fr Fu Fs Fx
     subst qq0 qq1 qq2 qq3 qq4 qq5 qq6
     simp only [List.map_cons, List.map_nil, over, Act.put, List.setIfInBounds_toArray, List.set_cons_zero, List.set_cons_succ]
     have OLD := Nx
     replace Na := At.far Na (p := ⟨gx, 0, none⟩) Dax.symm (.int .u64 (wd U 0 : Nat))
     replace Nb := At.far Nb (p := ⟨gx, 0, none⟩) Dbx.symm (.int .u64 (wd U 0 : Nat))
     replace Nq := At.far Nq (p := ⟨gx, 0, none⟩) Dqx.symm (.int .u64 (wd U 0 : Nat))
     replace Nr := At.far Nr (p := ⟨gx, 0, none⟩) Drx.symm (.int .u64 (wd U 0 : Nat))
     replace Nu := At.far Nu (p := ⟨gx, 0, none⟩) Dux.symm (.int .u64 (wd U 0 : Nat))
     replace Ns := At.far Ns (p := ⟨gx, 0, none⟩) Dsx.symm (.int .u64 (wd U 0 : Nat))
     have NEWC : At (y6.setCell ⟨gx, 0, none⟩ (.int .u64 (wd U 0 : Nat))) gx 24 #[.int .u64 (wd U 0 : Nat), .int .u64 (wd U 1 : Nat), .int .u64 (wd U 2 : Nat), .int .u64 (wd U 3 : Nat)] := by
      have := At.set Nx 0 (.int .u64 (wd U 0 : Nat))
      rw [set_cell S U 0 (wd U 0) (by decide) rfl HSAME.out] at this; exact this
     replace Nx := NEWC
     clear NEWC
     have NBC : Below w.heap.size w (y6.setCell ⟨gx, 0, none⟩ (.int .u64 (wd U 0 : Nat))) := NB.setCell Ex _
     replace NB := NBC
     clear NBC
     refine store_word (i := 7) _ _ _ _ _ gx 0 _ _ (by kernel_rfl) (by rfl) (by rfl) (by rfl) (OLD.lt) (OLD.cell 0) (OLD.frozen 0) (trivial) ?_
     clear OLD
     generalize (y6.setCell ⟨gx, 0, none⟩ (.int .u64 (wd U 0 : Nat))) = y6_7 at *
     refine wpAnyH_done (by kernel_rfl) ?_ _
     refine NoPanic.normal ?_
     have Fa := Lib.hid Na
     have Fb := Lib.hid Nb
     have Fq := Lib.hid Nq
     have Fr := Lib.hid Nr
     have Fu := Lib.hid Nu
     have Fs := Lib.hid Ns
     have Fx := Lib.hid Nx
     have BW := Lib.hid NB
     clear NB Na Nb Nq Nr Nu Ns Nx
     clear HSZ6
     have Lx := Fx.out.lt
     have cx0 := Fx.out.c0
     have cx1 := Fx.out.c1
     have cx2 := Fx.out.c2
     have cx3 := Fx.out.c3
     have Lb := Fb.out.lt
     have cb0 := Fb.out.c0
     have cb1 := Fb.out.c1
     have cb2 := Fb.out.c2
     have cb3 := Fb.out.c3
     have Ls := Fs.out.lt
     have cs0 := Fs.out.c0
     have cs1 := Fs.out.c1
     have cs2 := Fs.out.c2
     have cs3 := Fs.out.c3
     have fs0 : y6_7.frozen? ⟨gs, 0, none⟩ = false := Fs.out.frozen 0
     have fs1 : y6_7.frozen? ⟨gs, 1, none⟩ = false := Fs.out.frozen 1
     have fs2 : y6_7.frozen? ⟨gs, 2, none⟩ = false := Fs.out.frozen 2
     have fs3 : y6_7.frozen? ⟨gs, 3, none⟩ = false := Fs.out.frozen 3
     go_wp2_with fail
     generalize hW7 : ((((y6_7.setCell ⟨gs, 0, none⟩ (.int .u64 (wd U 0 : Nat))).setCell ⟨gs, 1, none⟩ (.int .u64 (wd U 1 : Nat))).setCell ⟨gs, 2, none⟩ (.int .u64 (wd U 2 : Nat))).setCell ⟨gs, 3, none⟩ (.int .u64 (wd U 3 : Nat))) = W7 at *
     clear Lx cx0 cx1 cx2 cx3 Lb cb0 cb1 cb2 cb3 Ls cs0 cs1 cs2 cs3 fs0 fs1 fs2 fs3
     have Na_0 := at_of hW7 ((Fa.out).far4 Das _ _ _ _)
     have Nb_0 := at_of hW7 ((Fb.out).far4 Dbs _ _ _ _)
     have Nq_0 := at_of hW7 ((Fq.out).far4 Dqs _ _ _ _)
     have Nr_0 := at_of hW7 ((Fr.out).far4 Drs _ _ _ _)
     have Nu_0 := at_of hW7 ((Fu.out).far4 Dus _ _ _ _)
     have Ns_0 := at_of hW7 ((Fs.out).put4 _ _ _ _)
     have Nx_0 := at_of hW7 ((Fx.out).far4 Dsx.symm _ _ _ _)
     have NB_0 := gr_of hW7 (((((BW.out).setCell Es _).setCell Es _).setCell Es _).setCell Es _)
     have Na := Na_0
     have Nb := Nb_0
     have Nq := Nq_0
     have Nr := Nr_0
     have Nu := Nu_0
     have Ns := Ns_0
     have Nx := Nx_0
     have NB := NB_0
     clear BW Fa Fb Fq Fr Fu Fs Fx Na_0 Nb_0 Nq_0 Nr_0 Nu_0 Ns_0 Nx_0 NB_0
     clear hW7
     have Fa := Lib.hid Na
     have Fb := Lib.hid Nb
     have Fq := Lib.hid Nq
     have Fr := Lib.hid Nr
     have Fu := Lib.hid Nu
     have Fs := Lib.hid Ns
     have Fx := Lib.hid Nx
     have BW := Lib.hid NB
     clear NB Na Nb Nq Nr Nu Ns Nx
     refine (HCM.out _).mono ?_
     rintro e v8 ⟨rfl, z8⟩
     have Na := Lib.hid (Fa.out.on z8)
     have Nb := Lib.hid (Fb.out.on z8)
     have Nq := Lib.hid (Fq.out.on z8)
     have Nr := Lib.hid (Fr.out.on z8)
     have Nu := Lib.hid (Fu.out.on z8)
     have Ns := Lib.hid (Fs.out.on z8)
     have Nx := Lib.hid (Fx.out.on z8)
     have NB := Lib.hid (bel_tr BW.out z8)
     clear BW z8 Fa Fb Fq Fr Fu Fs Fx
     have Fa := Na
     have Fb := Nb
     have Fq := Nq
     have Fr := Nr
     have Fu := Nu
     have Fs := Ns
     have Fx := Nx
     have BW := NB
     clear NB Na Nb Nq Nr Nu Ns Nx
     go_wp2_with fail
     go_roundw
     case rel =>
      have Nu := Fu.out
      rw [HX1.out, show Q * 2 ^ (j + 1) = (2 * Q + 0) * 2 ^ j by rw [Nat.pow_succ, Nat.add_zero]; ac_rfl] at Nu
      first
       | exact ⟨j, 2 * Q + 0, U, by have := HJ.out; omega, by go_num, Fa.out, Fb.out, Fq.out, Fr.out, Nu, Fs.out, BW.out, HDL.out.1, HDL.out.2⟩
       | ((repeat apply Exists.intro); exact ⟨⟨j, 2 * Q + 0, U, by have := HJ.out; omega, by go_num, Fa.out, Fb.out, Fq.out, Fr.out, Nu, Fs.out, BW.out, HDL.out.1, HDL.out.2⟩, rfl⟩)
     case measure => (simp [intOf] <;> omega)

set_option maxRecDepth 100000 in
set_option maxHeartbeats 8000000 in
theorem rdiv_l2 (A B V R0 : Nat) (EQ : ∀ w, (Op.equalIn 10000 24 (num B) (.agg #[.int .u64 0, .int .u64 0, .int .u64 0, .int .u64 0])).run Try.prog w = .ok false w) (hA : A < 2 ^ 256) (hB : B < 2 ^ 256) (hB0 : 0 < B) (hV : V = A / B) (hR0 : R0 = A % B)
  (WA : ∀ w, Calls Try.prog 65 #[num A] w fun e w' => e = .returned (.bool true) ∧ Below w.heap.size w w')
  (WB : ∀ w, Calls Try.prog 65 #[num B] w fun e w' => e = .returned (.bool false) ∧ Below w.heap.size w w')
  (w : World) : Calls Try.prog 45 #[num A, num B] w fun e w' => e = .returned (.tuple #[num V, num R0, .int .i64 0]) ∧ Below w.heap.size w w' := by
 have HWA := Lib.hid WA
 have HWB := Lib.hid WB
 have HA := Lib.hid hA; have HB := Lib.hid hB; have HB0 := Lib.hid hB0; have HV := Lib.hid hV; have HR0 := Lib.hid hR0
 clear WA WB hA hB hB0 hV hR0
 go_enter Try.func45, Try.ntmps45
 go_wp2_with (simp only [EQ])
 clear EQ
 have BW := Lib.hid (Below.refl w.heap.size w)
 generalize hW1 : ((((w.alloc (.cells #[.int .u64 (wd A 0 : Nat), .int .u64 (wd A 1 : Nat), .int .u64 (wd A 2 : Nat), .int .u64 (wd A 3 : Nat)] 24)).alloc (.cells #[.int .u64 (wd B 0 : Nat), .int .u64 (wd B 1 : Nat), .int .u64 (wd B 2 : Nat), .int .u64 (wd B 3 : Nat)] 24)).alloc (.cells #[.int .u64 0, .int .u64 0, .int .u64 0, .int .u64 0] 24)).alloc (.cells #[.int .u64 0, .int .u64 0, .int .u64 0, .int .u64 0] 24)) = W1 at *
 have Na : At W1 (w.heap.size) _ _ := at_of hW1 ((((At.at_ _ _ _ _ (by simp)).alloc _).alloc _).alloc _)
 have Nb : At W1 (w.heap.size + 1) _ _ := at_of hW1 (((At.at_ _ _ _ _ (by simp)).alloc _).alloc _)
 have Nq : At W1 (w.heap.size + 1 + 1) _ _ := at_of hW1 ((At.at_ _ _ _ _ (by simp)).alloc _)
 have Eq : w.heap.size ≤ w.heap.size + 1 + 1 := by have := BW.out.size; omega
 have Daq : w.heap.size ≠ w.heap.size + 1 + 1 := by omega
 have Dbq : w.heap.size + 1 ≠ w.heap.size + 1 + 1 := by omega
 have Nr : At W1 (w.heap.size + 1 + 1 + 1) _ _ := at_of hW1 (At.at_ _ _ _ _ (by simp))
 have Er : w.heap.size ≤ w.heap.size + 1 + 1 + 1 := by have := BW.out.size; omega
 have Dar : w.heap.size ≠ w.heap.size + 1 + 1 + 1 := by omega
 have Dbr : w.heap.size + 1 ≠ w.heap.size + 1 + 1 + 1 := by omega
 have Dqr : w.heap.size + 1 + 1 ≠ w.heap.size + 1 + 1 + 1 := by omega
 have NB := gr_of hW1 (gr_alloc (gr_alloc (gr_alloc (gr_alloc BW.out _) _) _) _)
 clear BW
 clear hW1
 generalize w.heap.size + 1 + 1 + 1 = gr at *
 generalize w.heap.size + 1 + 1 = gq at *
 generalize w.heap.size + 1 = gb at *
 obtain ⟨ga, hg0⟩ : ∃ g, g = w.heap.size := ⟨_, rfl⟩
 rw [← hg0] at Na ⊢
 rw [← hg0] at Daq Dar
 clear hg0
 have Fa := Lib.hid Na
 have Fb := Lib.hid Nb
 have Fq := Lib.hid Nq
 have Fr := Lib.hid Nr
 have BW := Lib.hid NB
 clear NB Na Nb Nq Nr
 refine (HWA.out _).mono ?_
 rintro e v2 ⟨rfl, z2⟩
 have Na := Lib.hid (Fa.out.on z2)
 have Nb := Lib.hid (Fb.out.on z2)
 have Nq := Lib.hid (Fq.out.on z2)
 have Nr := Lib.hid (Fr.out.on z2)
 have NB := Lib.hid (bel_tr BW.out z2)
 clear BW z2 Fa Fb Fq Fr
 have Fa := Na
 have Fb := Nb
 have Fq := Nq
 have Fr := Nr
 have BW := NB
 clear NB Na Nb Nq Nr
 have Lb := Fb.out.lt
 have cb0 := Fb.out.c0
 have cb1 := Fb.out.c1
 have cb2 := Fb.out.c2
 have cb3 := Fb.out.c3
 go_wp2_with fail
 clear Lb cb0 cb1 cb2 cb3
 refine (HWB.out _).mono ?_
 rintro e v3 ⟨rfl, z3⟩
 have Na := Lib.hid (Fa.out.on z3)
 have Nb := Lib.hid (Fb.out.on z3)
 have Nq := Lib.hid (Fq.out.on z3)
 have Nr := Lib.hid (Fr.out.on z3)
 have NB := Lib.hid (bel_tr BW.out z3)
 clear BW z3 Fa Fb Fq Fr
 have Fa := Na
 have Fb := Nb
 have Fq := Nq
 have Fr := Nr
 have BW := NB
 clear NB Na Nb Nq Nr
 go_wp2_with fail
 generalize hW4 : ((v3.alloc (.cells #[.int .u64 0, .int .u64 0, .int .u64 0, .int .u64 0] 24)).alloc (.cells #[.int .u64 0, .int .u64 0, .int .u64 0, .int .u64 0] 24)) = W4 at *
 have Nu : At W4 (v3.heap.size) _ _ := at_of hW4 ((At.at_ _ _ _ _ (by simp)).alloc _)
 have Eu : w.heap.size ≤ v3.heap.size := by have := BW.out.size; omega
 have Dau : ga ≠ v3.heap.size := by have := Fa.out.lt; omega
 have Dbu : gb ≠ v3.heap.size := by have := Fb.out.lt; omega
 have Dqu : gq ≠ v3.heap.size := by have := Fq.out.lt; omega
 have Dru : gr ≠ v3.heap.size := by have := Fr.out.lt; omega
 have Ns : At W4 (v3.heap.size + 1) _ _ := at_of hW4 (At.at_ _ _ _ _ (by simp))
 have Es : w.heap.size ≤ v3.heap.size + 1 := by have := BW.out.size; omega
 have Das : ga ≠ v3.heap.size + 1 := by have := Fa.out.lt; omega
 have Dbs : gb ≠ v3.heap.size + 1 := by have := Fb.out.lt; omega
 have Dqs : gq ≠ v3.heap.size + 1 := by have := Fq.out.lt; omega
 have Drs : gr ≠ v3.heap.size + 1 := by have := Fr.out.lt; omega
 have Dus : v3.heap.size ≠ v3.heap.size + 1 := by omega
 have Na := at_of hW4 ((Fa.out.alloc _).alloc _)
 have Nb := at_of hW4 ((Fb.out.alloc _).alloc _)
 have Nq := at_of hW4 ((Fq.out.alloc _).alloc _)
 have Nr := at_of hW4 ((Fr.out.alloc _).alloc _)
 have NB := gr_of hW4 (gr_alloc (gr_alloc BW.out _) _)
 clear BW Fa Fb Fq Fr
 clear hW4
 generalize v3.heap.size + 1 = gs at *
 generalize v3.heap.size = gu at *
 have Fa := Lib.hid Na
 have Fb := Lib.hid Nb
 have Fq := Lib.hid Nq
 have Fr := Lib.hid Nr
 have Fu := Lib.hid Nu
 have Fs := Lib.hid Ns
 have BW := Lib.hid NB
 clear NB Na Nb Nq Nr Nu Ns
 go_loopw [9] (fun n9 wr => ∃ i Q rr : Nat, i ≤ 256 ∧ n9 = .int .i64 ((i : Int) - 1) ∧ Hid (At wr ga 24 #[.int .u64 (wd A 0 : Nat), .int .u64 (wd A 1 : Nat), .int .u64 (wd A 2 : Nat), .int .u64 (wd A 3 : Nat)] ∧ At wr gb 24 #[.int .u64 (wd B 0 : Nat), .int .u64 (wd B 1 : Nat), .int .u64 (wd B 2 : Nat), .int .u64 (wd B 3 : Nat)] ∧ At wr gq 24 #[.int .u64 0, .int .u64 0, .int .u64 0, .int .u64 0] ∧ At wr gr 24 #[.int .u64 0, .int .u64 0, .int .u64 0, .int .u64 0] ∧ At wr gu 24 #[.int .u64 (wd (Q * 2 ^ i) 0 : Nat), .int .u64 (wd (Q * 2 ^ i) 1 : Nat), .int .u64 (wd (Q * 2 ^ i) 2 : Nat), .int .u64 (wd (Q * 2 ^ i) 3 : Nat)] ∧ At wr gs 24 #[.int .u64 (wd rr 0 : Nat), .int .u64 (wd rr 1 : Nat), .int .u64 (wd rr 2 : Nat), .int .u64 (wd rr 3 : Nat)] ∧ Below w.heap.size w wr ∧ rr < B ∧ A / 2 ^ i = Q * B + rr)) (fun n9 _ => (intOf n9 + 1).toNat)
 case atStart =>
  have e : ∀ k, wd (0 * 2 ^ 256) k = 0 := fun k => by simp [wd]
  have e2 : ∀ k, wd 0 k = 0 := fun k => by simp [wd]
  refine ⟨256, 0, 0, by omega, rfl, Fa.out, Fb.out, Fq.out, Fr.out, ?_, ?_, BW.out, HB0.out, by rw [Nat.div_eq_of_lt HA.out]; simp⟩
  ·rw [e, e, e, e]; exact Fu.out
  ·rw [e2, e2, e2, e2]; exact Fs.out
 case round =>
  obtain ⟨i, Q, rr, hi, rfl, hM⟩ := hrel
  clear BW Fa Fb Fq Fr Fu Fs
  have Fa := Lib.hid hM.out.1
  have Fb := Lib.hid hM.out.2.1
  have Fq := Lib.hid hM.out.2.2.1
  have Fr := Lib.hid hM.out.2.2.2.1
  have Fu := Lib.hid hM.out.2.2.2.2.1
  have Fs := Lib.hid hM.out.2.2.2.2.2.1
  have BW := Lib.hid hM.out.2.2.2.2.2.2.1
  have HRB := Lib.hid hM.out.2.2.2.2.2.2.2.1
  have HE := Lib.hid hM.out.2.2.2.2.2.2.2.2
  clear hM
  by_cases h0 : i = 0
  ·subst h0
   have hv : Q = V := by
    have := HE.out; rw [Nat.pow_zero, Nat.div_one] at this
    rw [HV.out, this, Nat.mul_comm, Nat.mul_add_div HB0.out, Nat.div_eq_of_lt HRB.out, Nat.add_zero]
   have hr : rr = R0 := by
    have := HE.out; rw [Nat.pow_zero, Nat.div_one] at this
    rw [HR0.out, this, Nat.mul_comm, Nat.mul_add_mod, Nat.mod_eq_of_lt HRB.out]
   have Nu := Fu.out
   rw [Nat.pow_zero, Nat.mul_one, hv] at Nu
   have Ns := Fs.out
   rw [hr] at Ns
   clear Fu Fs HE HRB hv hr
   have Fu := Lib.hid Nu; have Fs := Lib.hid Ns
   clear Nu Ns
   go_wp2_with fail
   try simp only [List.append_eq, List.cons_append, List.nil_append]
   refine wp_region_noPanic ?_
   refine wp_region_held_drew (S := fun w' => At w' gu 24 #[.int .u64 (wd V 0 : Nat), .int .u64 (wd V 1 : Nat), .int .u64 (wd V 2 : Nat), .int .u64 (wd V 3 : Nat)] ∧ At w' gs 24 #[.int .u64 (wd R0 0 : Nat), .int .u64 (wd R0 1 : Nat), .int .u64 (wd R0 2 : Nat), .int .u64 (wd R0 3 : Nat)]) (by kernel_rfl) (⟨Fu.out.drew, Fs.out.drew⟩) (fun _ => ?_)
   refine wpAnyH_cores (fuel := 3) (⟨0, 78, [], Kind.val (.agg #[.int .u64 (wd V 0 : Nat), .int .u64 (wd V 1 : Nat), .int .u64 (wd V 2 : Nat), .int .u64 (wd V 3 : Nat)]), true⟩ :: ⟨1, 79, [], Kind.val (.agg #[.int .u64 (wd R0 0 : Nat), .int .u64 (wd R0 1 : Nat), .int .u64 (wd R0 2 : Nat), .int .u64 (wd R0 3 : Nat)]), true⟩ :: []) _ _ wr _ ?_ ?_ ?_ ?_ ?_ ?_ ?_ ?_ ?_ ?_ ?_
   ·rfl
   ·kernel_rfl
   ·exact of_decide_eq_true rfl
   ·(repeat refine all_cons ⟨_, rfl, rfl⟩ ?_); exact all_nil
   ·exact fun _ hb => ⟨Fu.out.on hb, Fs.out.on hb⟩
   ·exact (Below.refl _ _).drew
   ·kernel_rfl
   ·exact fun _ _ _ _ _ h => h
   ·refine all_cons ?_ (all_cons ?_ (all_nil))
    ·exact core_loadP _ _ _ _ _ gu _ _ _ _ (by rfl) (by rfl) (ko 7) (fun _ hs => hs.1)
    ·exact core_loadP _ _ _ _ _ gs _ _ _ _ (by rfl) (by rfl) (ko 8) (fun _ hs => hs.2)
   ·refine all_cons ?_ (all_cons ?_ (all_nil))
    ·exact sA
    ·exact sA
   intro vs y5 hc
   obtain ⟨vv0, vv1, rfl⟩ := len2 vs hc.lv
   have qq0 := okv hc 0
   have qq1 := okv hc 1
   have BZ := hc.bel
   clear hc
   have Na := Fa.out.on BZ
   have Nb := Fb.out.on BZ
   have Nq := Fq.out.on BZ
   have Nr := Fr.out.on BZ
   have Nu := Fu.out.on BZ
   have Ns := Fs.out.on BZ
   have HSZ5 := BW.out.size
   have NB := bel_tr BW.out BZ
   clear BW BZ Fa Fb Fq Fr Fu Fs
   subst qq0 qq1
   simp only [List.map_cons, List.map_nil, over, Act.put, List.setIfInBounds_toArray, List.set_cons_zero, List.set_cons_succ]
   have OLD := Nq
   replace Na := put4_far Na Daq (.int .u64 (wd V 0 : Nat)) (.int .u64 (wd V 1 : Nat)) (.int .u64 (wd V 2 : Nat)) (.int .u64 (wd V 3 : Nat))
   replace Nb := put4_far Nb Dbq (.int .u64 (wd V 0 : Nat)) (.int .u64 (wd V 1 : Nat)) (.int .u64 (wd V 2 : Nat)) (.int .u64 (wd V 3 : Nat))
   replace Nq := put4_at Nq (.int .u64 (wd V 0 : Nat)) (.int .u64 (wd V 1 : Nat)) (.int .u64 (wd V 2 : Nat)) (.int .u64 (wd V 3 : Nat))
   replace Nr := put4_far Nr Dqr.symm (.int .u64 (wd V 0 : Nat)) (.int .u64 (wd V 1 : Nat)) (.int .u64 (wd V 2 : Nat)) (.int .u64 (wd V 3 : Nat))
   replace Nu := put4_far Nu Dqu.symm (.int .u64 (wd V 0 : Nat)) (.int .u64 (wd V 1 : Nat)) (.int .u64 (wd V 2 : Nat)) (.int .u64 (wd V 3 : Nat))
   replace Ns := put4_far Ns Dqs.symm (.int .u64 (wd V 0 : Nat)) (.int .u64 (wd V 1 : Nat)) (.int .u64 (wd V 2 : Nat)) (.int .u64 (wd V 3 : Nat))
   replace NB := put4_below NB Eq (.int .u64 (wd V 0 : Nat)) (.int .u64 (wd V 1 : Nat)) (.int .u64 (wd V 2 : Nat)) (.int .u64 (wd V 3 : Nat))
   refine store_one (i := 2) _ _ _ _ _ gq _ _ _ _ _ _ _ _ (by kernel_rfl) (by rfl) (by rfl) (by rfl) OLD (⟨Nu, Ns⟩) ?_
   clear OLD
   generalize (put4 y5 gq (.int .u64 (wd V 0 : Nat)) (.int .u64 (wd V 1 : Nat)) (.int .u64 (wd V 2 : Nat)) (.int .u64 (wd V 3 : Nat))) = y5_2 at *
   have OLD := Nr
   replace Na := put4_far Na Dar (.int .u64 (wd R0 0 : Nat)) (.int .u64 (wd R0 1 : Nat)) (.int .u64 (wd R0 2 : Nat)) (.int .u64 (wd R0 3 : Nat))
   replace Nb := put4_far Nb Dbr (.int .u64 (wd R0 0 : Nat)) (.int .u64 (wd R0 1 : Nat)) (.int .u64 (wd R0 2 : Nat)) (.int .u64 (wd R0 3 : Nat))
   replace Nq := put4_far Nq Dqr (.int .u64 (wd R0 0 : Nat)) (.int .u64 (wd R0 1 : Nat)) (.int .u64 (wd R0 2 : Nat)) (.int .u64 (wd R0 3 : Nat))
   replace Nr := put4_at Nr (.int .u64 (wd R0 0 : Nat)) (.int .u64 (wd R0 1 : Nat)) (.int .u64 (wd R0 2 : Nat)) (.int .u64 (wd R0 3 : Nat))
   replace Nu := put4_far Nu Dru.symm (.int .u64 (wd R0 0 : Nat)) (.int .u64 (wd R0 1 : Nat)) (.int .u64 (wd R0 2 : Nat)) (.int .u64 (wd R0 3 : Nat))
   replace Ns := put4_far Ns Drs.symm (.int .u64 (wd R0 0 : Nat)) (.int .u64 (wd R0 1 : Nat)) (.int .u64 (wd R0 2 : Nat)) (.int .u64 (wd R0 3 : Nat))
   replace NB := put4_below NB Er (.int .u64 (wd R0 0 : Nat)) (.int .u64 (wd R0 1 : Nat)) (.int .u64 (wd R0 2 : Nat)) (.int .u64 (wd R0 3 : Nat))
   refine store_one (i := 3) _ _ _ _ _ gr _ _ _ _ _ _ _ _ (by kernel_rfl) (by rfl) (by rfl) (by rfl) OLD (⟨Nu, Ns⟩) ?_
   clear OLD
   generalize (put4 y5_2 gr (.int .u64 (wd R0 0 : Nat)) (.int .u64 (wd R0 1 : Nat)) (.int .u64 (wd R0 2 : Nat)) (.int .u64 (wd R0 3 : Nat))) = y5_3 at *
   refine assign_one (i := 4) _ 6 _ _ _ (.int .i64 0) (by kernel_rfl) (by rfl) (by rfl) (⟨Nu, Ns⟩) ?_
   try simp only [Act.put, List.setIfInBounds_toArray, List.set_cons_zero, List.set_cons_succ]
   refine wpAnyH_done (by kernel_rfl) ?_ _
   refine NoPanic.normal ?_
   have Fa := Lib.hid Na
   have Fb := Lib.hid Nb
   have Fq := Lib.hid Nq
   have Fr := Lib.hid Nr
   have Fu := Lib.hid Nu
   have Fs := Lib.hid Ns
   have BW := Lib.hid NB
   clear NB Na Nb Nq Nr Nu Ns
   clear HSZ5
   have Lq := Fq.out.lt
   have cq0 := Fq.out.c0
   have cq1 := Fq.out.c1
   have cq2 := Fq.out.c2
   have cq3 := Fq.out.c3
   have Lr := Fr.out.lt
   have cr0 := Fr.out.c0
   have cr1 := Fr.out.c1
   have cr2 := Fr.out.c2
   have cr3 := Fr.out.c3
   go_wp2_with fail
   exact bodyPost_ret (v := .tuple #[num V, num R0, .int .i64 0]) (by simp [results, Try.results45, go_sem, *]) rfl ⟨rfl, BW.out⟩
  ·obtain ⟨j, rfl⟩ : ∃ j, i = j + 1 := ⟨i - 1, by omega⟩
   have hj256 : j < 256 := by omega
   have e1 : (((j + 1 : Nat) : Int) - 1) = (j : Nat) := by omega
   rw [e1]
   clear e1 h0
   have hB256 := HB.out
   have hr256 : rr < 2 ^ 256 := by have := HRB.out; omega
   obtain ⟨S, c, hS, hc, he, _⟩ := add_ex rr rr hr256 hr256
   have AD := radd_any rr rr S c hr256 hr256 hS hc he
   obtain ⟨z, hz⟩ : ∃ z, z = A / 2 ^ j % 2 := ⟨_, rfl⟩
   have hz1 : z ≤ 1 := by omega
   have BT := rbit_any A HA.out (j : Int)
   have hbt : bt A (j : Int) = z := by unfold bt; rw [if_neg (by omega), Int.toNat_natCast]; exact hz.symm
   rw [hbt] at BT
   have ev : S % 2 = 0 := by omega
   obtain ⟨w0, w1, w2, w3⟩ := even_word S z hS ev hz1
   obtain ⟨U, hU⟩ : ∃ U, U = S + z := ⟨_, rfl⟩
   rw [← hU] at w0 w1 w2 w3
   have hU256 : U < 2 ^ 256 := by omega
   have hsame : ∀ n, n ≠ 0 → wd U n = wd S n := fun n hn => by
    rcases Nat.lt_or_ge n 4 with h | h
    ·match n, h with
     | 0, _ => exact absurd rfl hn
     | 1, _ => exact w1
     | 2, _ => exact w2
     | 3, _ => exact w3
    ·unfold wd
     have hp : 2 ^ 256 ≤ 18446744073709551616 ^ n := by rw [show (2 : Nat) ^ 256 = 18446744073709551616 ^ 4 from rfl]; exact Nat.pow_le_pow_right (by decide) h
     rw [Nat.div_eq_of_lt (Nat.lt_of_lt_of_le hU256 hp), Nat.div_eq_of_lt (Nat.lt_of_lt_of_le hS hp)]
   have hu0 : wd S 0 + z = wd U 0 := w0.symm
   have hul := wd_lt U 0
   have hA2 : A / 2 ^ j = 2 * (A / 2 ^ (j + 1)) + z := by rw [hz]; exact wide_half A j
   have hA3 : A / 2 ^ j = 2 * (Q * B) + (U + 2 ^ 256 * c) := by rw [hA2, HE.out]; omega
   have htot : 2 * rr + z = U + 2 ^ 256 * c := by omega
   have HTOT := Lib.hid htot; have HZ1 := Lib.hid hz1
   clear htot
   obtain ⟨X1, hX1⟩ : ∃ X, X = Q * 2 ^ (j + 1) := ⟨_, rfl⟩
   have Nu := Fu.out
   rw [← hX1] at Nu
   clear Fu
   have Fu := Lib.hid Nu
   clear Nu
   have HAD := Lib.hid AD; have HBT := Lib.hid BT; have HSAME := Lib.hid hsame; have HU0 := Lib.hid hu0; have HUL := Lib.hid hul; have HA3 := Lib.hid hA3; have HX1 := Lib.hid hX1; have HJ := Lib.hid hj256
   clear AD BT hsame hu0 hul hA2 hA3 hX1 w0 w1 w2 w3 ev hz hbt hz1 he hS HE hU
   have h01 : c = 1 ∨ c = 0 := by omega
   rcases h01 with rfl | rfl
   ·obtain ⟨D, l, hD, hl, he2, _⟩ := sub_ex U B hU256 hB256
    have SU := rsub_any U B D l hU256 hB256 hD hl he2
    have hrb := HRB.out; have tot := HTOT.out; have z1 := HZ1.out
    have hdl : D < B ∧ A / 2 ^ j = (2 * Q + 1) * B + D := by
     have a3 := HA3.out
     have e : (2 * Q + 1) * B = 2 * (Q * B) + B := by rw [Nat.add_mul, Nat.one_mul, Nat.mul_assoc]
     rw [e]; constructor <;> omega
    have HSU := Lib.hid SU; have HDL := Lib.hid hdl
    clear SU hdl hD hl he2 hrb tot z1 hc hr256 hB256 hU256
    have j0 : (0 : Int) ≤ (j : Int) := by omega
    have Ls := Fs.out.lt
    have cs0 := Fs.out.c0
    have cs1 := Fs.out.c1
    have cs2 := Fs.out.c2
    have cs3 := Fs.out.c3
    go_wp2_with fail
    clear Ls cs0 cs1 cs2 cs3
    refine (HAD.out _).mono ?_
    rintro e v5 ⟨rfl, z5⟩
    have Na := Lib.hid (Fa.out.on z5)
    have Nb := Lib.hid (Fb.out.on z5)
    have Nq := Lib.hid (Fq.out.on z5)
    have Nr := Lib.hid (Fr.out.on z5)
    have Nu := Lib.hid (Fu.out.on z5)
    have Ns := Lib.hid (Fs.out.on z5)
    have NB := Lib.hid (bel_tr BW.out z5)
    clear BW z5 Fa Fb Fq Fr Fu Fs
    have Fa := Na
    have Fb := Nb
    have Fq := Nq
    have Fr := Nr
    have Fu := Nu
    have Fs := Ns
    have BW := NB
    clear NB Na Nb Nq Nr Nu Ns
    go_wp2_with fail
    generalize hW6 : (v5.alloc (.cells #[.int .u64 (wd S 0 : Nat), .int .u64 (wd S 1 : Nat), .int .u64 (wd S 2 : Nat), .int .u64 (wd S 3 : Nat)] 24)) = W6 at *
    have Nx : At W6 (v5.heap.size) _ _ := at_of hW6 (At.at_ _ _ _ _ (by simp))
    have Ex : w.heap.size ≤ v5.heap.size := by have := BW.out.size; omega
    have Dax : ga ≠ v5.heap.size := by have := Fa.out.lt; omega
    have Dbx : gb ≠ v5.heap.size := by have := Fb.out.lt; omega
    have Dqx : gq ≠ v5.heap.size := by have := Fq.out.lt; omega
    have Drx : gr ≠ v5.heap.size := by have := Fr.out.lt; omega
    have Dux : gu ≠ v5.heap.size := by have := Fu.out.lt; omega
    have Dsx : gs ≠ v5.heap.size := by have := Fs.out.lt; omega
    have Na := at_of hW6 (Fa.out.alloc _)
    have Nb := at_of hW6 (Fb.out.alloc _)
    have Nq := at_of hW6 (Fq.out.alloc _)
    have Nr := at_of hW6 (Fr.out.alloc _)
    have Nu := at_of hW6 (Fu.out.alloc _)
    have Ns := at_of hW6 (Fs.out.alloc _)
    have NB := gr_of hW6 (gr_alloc BW.out _)
    clear BW Fa Fb Fq Fr Fu Fs
    clear hW6
    generalize v5.heap.size = gx at *
    have Fa := Lib.hid Na
    have Fb := Lib.hid Nb
    have Fq := Lib.hid Nq
    have Fr := Lib.hid Nr
    have Fu := Lib.hid Nu
    have Fs := Lib.hid Ns
    have Fx := Lib.hid Nx
    have BW := Lib.hid NB
    clear NB Na Nb Nq Nr Nu Ns Nx
    try simp only [List.append_eq, List.cons_append, List.nil_append]
    refine wp_region_noPanic ?_
    refine wp_region_held_drew (S := fun w' => True) (by kernel_rfl) (trivial) (fun _ => ?_)
    refine wpAnyH_cores (fuel := 1) (⟨0, 45, [], Kind.val (.pointer (some ⟨gx, 0, none⟩)), true⟩ :: ⟨1, 46, [0], Kind.val (.int .u64 (wd S 0 : Nat)), false⟩ :: ⟨2, 47, [], Kind.val (.agg #[.int .u64 (wd A 0 : Nat), .int .u64 (wd A 1 : Nat), .int .u64 (wd A 2 : Nat), .int .u64 (wd A 3 : Nat)]), false⟩ :: ⟨3, 48, [], Kind.val (.int .i64 (j : Nat)), true⟩ :: ⟨4, 49, [2, 3], Kind.val (.int .u64 (z : Nat)), false⟩ :: ⟨5, 50, [1, 4], Kind.val (.int .u64 (wd U 0 : Nat)), true⟩ :: ⟨6, 51, [], Kind.val (.pointer (some ⟨gx, 0, none⟩)), true⟩ :: []) _ _ W6 _ ?_ ?_ ?_ ?_ ?_ ?_ ?_ ?_ ?_ ?_ ?_
    ·rfl
    ·kernel_rfl
    ·exact of_decide_eq_true rfl
    ·(repeat refine all_cons ⟨_, rfl, rfl⟩ ?_); exact all_nil
    ·exact fun _ hb => trivial
    ·exact (Below.refl _ _).drew
    ·kernel_rfl
    ·exact fun _ _ _ _ _ h => h
    ·(repeat (refine all_cons ?_ ?_; rotate_left)); exact all_nil
     ·exact core_held2C _ _ _ _ _ _ _ _ _ _ (by rfl) (by rfl) (ko 10) (known_const _) (fun ρ w hx hy _ => index_run _ _ _ _ _ _ _ ρ w gx 0 (by decide) hx hy)
     ·exact core_pureAs _ (by rfl)
     ·exact core_pureAs _ (by rfl)
     ·exact core_move _ _ _ _ _ _ (by rfl) (by rfl) (ko 9)
     ·exact core_pureAs _ (by rfl)
     ·exact core_held2C _ _ _ _ _ _ _ _ _ _ (by rfl) (by rfl) (kc 1 46) (kc 4 49) (fun ρ w hx hy _ => addU_run _ _ _ _ _ _ _ ρ w (wd S 0) z (wd U 0) HU0.out HUL.out hx hy)
     ·exact core_held2C _ _ _ _ _ _ _ _ _ _ (by rfl) (by rfl) (ko 10) (known_const _) (fun ρ w hx hy _ => index_run _ _ _ _ _ _ _ ρ w gx 0 (by decide) hx hy)
    ·(repeat (refine all_cons ?_ ?_; rotate_left)); exact all_nil
     ·exact sA
     ·exact fun _ => core_step _ _ _ _ _ _ _ _ (by rfl) (by rfl) (kc 0 45) (fun ρ w hx hb => load64_run _ _ _ _ _ _ ρ w gx 0 _ hx ((Fx.out.on hb).cell 0))
     ·exact fun _ => core_load _ _ _ _ _ ga _ _ _ _ (by rfl) (by rfl) (ko 2) Fa.out
     ·exact sA
     ·exact fun _ => core_call _ 66 _ _ [.tmp 47, .tmp 48] _ _ _ _ _ _ (by rfl) Try.func66 (by kernel_rfl) (by rfl) (by rfl) (.cons (kc 2 47) (.cons (kc 3 48) .nil)) (HBT.out)
     ·exact sA
     ·exact sA
    intro vs y7 hc
    obtain ⟨vv0, vv1, vv2, vv3, vv4, vv5, vv6, rfl⟩ := len7 vs hc.lv
    have qq0 := okv hc 0
    have qq1 := okv hc 1
    have qq2 := okv hc 2
    have qq3 := okv hc 3
    have qq4 := okv hc 4
    have qq5 := okv hc 5
    have qq6 := okv hc 6
    have BZ := hc.bel
    clear hc
    have Na := Fa.out.on BZ
    have Nb := Fb.out.on BZ
    have Nq := Fq.out.on BZ
    have Nr := Fr.out.on BZ
    have Nu := Fu.out.on BZ
    have Ns := Fs.out.on BZ
    have Nx := Fx.out.on BZ
    have HSZ7 := BW.out.size
    have NB := bel_tr BW.out BZ
    clear BW BZ Fa Fb Fq Fr Fu Fs Fx
    subst qq0 qq1 qq2 qq3 qq4 qq5 qq6
    simp only [List.map_cons, List.map_nil, over, Act.put, List.setIfInBounds_toArray, List.set_cons_zero, List.set_cons_succ]
    have OLD := Nx
    replace Na := At.far Na (p := ⟨gx, 0, none⟩) Dax.symm (.int .u64 (wd U 0 : Nat))
    replace Nb := At.far Nb (p := ⟨gx, 0, none⟩) Dbx.symm (.int .u64 (wd U 0 : Nat))
    replace Nq := At.far Nq (p := ⟨gx, 0, none⟩) Dqx.symm (.int .u64 (wd U 0 : Nat))
    replace Nr := At.far Nr (p := ⟨gx, 0, none⟩) Drx.symm (.int .u64 (wd U 0 : Nat))
    replace Nu := At.far Nu (p := ⟨gx, 0, none⟩) Dux.symm (.int .u64 (wd U 0 : Nat))
    replace Ns := At.far Ns (p := ⟨gx, 0, none⟩) Dsx.symm (.int .u64 (wd U 0 : Nat))
    have NEWC : At (y7.setCell ⟨gx, 0, none⟩ (.int .u64 (wd U 0 : Nat))) gx 24 #[.int .u64 (wd U 0 : Nat), .int .u64 (wd U 1 : Nat), .int .u64 (wd U 2 : Nat), .int .u64 (wd U 3 : Nat)] := by
     have := At.set Nx 0 (.int .u64 (wd U 0 : Nat))
     rw [set_cell S U 0 (wd U 0) (by decide) rfl HSAME.out] at this; exact this
    replace Nx := NEWC
    clear NEWC
    have NBC : Below w.heap.size w (y7.setCell ⟨gx, 0, none⟩ (.int .u64 (wd U 0 : Nat))) := NB.setCell Ex _
    replace NB := NBC
    clear NBC
    refine store_word (i := 7) _ _ _ _ _ gx 0 _ _ (by kernel_rfl) (by rfl) (by rfl) (by rfl) (OLD.lt) (OLD.cell 0) (OLD.frozen 0) (trivial) ?_
    clear OLD
    generalize (y7.setCell ⟨gx, 0, none⟩ (.int .u64 (wd U 0 : Nat))) = y7_7 at *
    refine wpAnyH_done (by kernel_rfl) ?_ _
    refine NoPanic.normal ?_
    have Fa := Lib.hid Na
    have Fb := Lib.hid Nb
    have Fq := Lib.hid Nq
    have Fr := Lib.hid Nr
    have Fu := Lib.hid Nu
    have Fs := Lib.hid Ns
    have Fx := Lib.hid Nx
    have BW := Lib.hid NB
    clear NB Na Nb Nq Nr Nu Ns Nx
    clear HSZ7
    have Lx := Fx.out.lt
    have cx0 := Fx.out.c0
    have cx1 := Fx.out.c1
    have cx2 := Fx.out.c2
    have cx3 := Fx.out.c3
    have Lb := Fb.out.lt
    have cb0 := Fb.out.c0
    have cb1 := Fb.out.c1
    have cb2 := Fb.out.c2
    have cb3 := Fb.out.c3
    have Ls := Fs.out.lt
    have cs0 := Fs.out.c0
    have cs1 := Fs.out.c1
    have cs2 := Fs.out.c2
    have cs3 := Fs.out.c3
    have fs0 : y7_7.frozen? ⟨gs, 0, none⟩ = false := Fs.out.frozen 0
    have fs1 : y7_7.frozen? ⟨gs, 1, none⟩ = false := Fs.out.frozen 1
    have fs2 : y7_7.frozen? ⟨gs, 2, none⟩ = false := Fs.out.frozen 2
    have fs3 : y7_7.frozen? ⟨gs, 3, none⟩ = false := Fs.out.frozen 3
    go_wp2_with fail
    generalize hW8 : ((((y7_7.setCell ⟨gs, 0, none⟩ (.int .u64 (wd U 0 : Nat))).setCell ⟨gs, 1, none⟩ (.int .u64 (wd U 1 : Nat))).setCell ⟨gs, 2, none⟩ (.int .u64 (wd U 2 : Nat))).setCell ⟨gs, 3, none⟩ (.int .u64 (wd U 3 : Nat))) = W8 at *
    clear Lx cx0 cx1 cx2 cx3 Lb cb0 cb1 cb2 cb3 Ls cs0 cs1 cs2 cs3 fs0 fs1 fs2 fs3
    have Na_0 := at_of hW8 ((Fa.out).far4 Das _ _ _ _)
    have Nb_0 := at_of hW8 ((Fb.out).far4 Dbs _ _ _ _)
    have Nq_0 := at_of hW8 ((Fq.out).far4 Dqs _ _ _ _)
    have Nr_0 := at_of hW8 ((Fr.out).far4 Drs _ _ _ _)
    have Nu_0 := at_of hW8 ((Fu.out).far4 Dus _ _ _ _)
    have Ns_0 := at_of hW8 ((Fs.out).put4 _ _ _ _)
    have Nx_0 := at_of hW8 ((Fx.out).far4 Dsx.symm _ _ _ _)
    have NB_0 := gr_of hW8 (((((BW.out).setCell Es _).setCell Es _).setCell Es _).setCell Es _)
    have Na := Na_0
    have Nb := Nb_0
    have Nq := Nq_0
    have Nr := Nr_0
    have Nu := Nu_0
    have Ns := Ns_0
    have Nx := Nx_0
    have NB := NB_0
    clear BW Fa Fb Fq Fr Fu Fs Fx Na_0 Nb_0 Nq_0 Nr_0 Nu_0 Ns_0 Nx_0 NB_0
    clear hW8
    have Fa := Lib.hid Na
    have Fb := Lib.hid Nb
    have Fq := Lib.hid Nq
    have Fr := Lib.hid Nr
    have Fu := Lib.hid Nu
    have Fs := Lib.hid Ns
    have Fx := Lib.hid Nx
    have BW := Lib.hid NB
    clear NB Na Nb Nq Nr Nu Ns Nx
    refine (HSU.out _).mono ?_
    rintro e v9 ⟨rfl, z9⟩
    have Na := Lib.hid (Fa.out.on z9)
    have Nb := Lib.hid (Fb.out.on z9)
    have Nq := Lib.hid (Fq.out.on z9)
    have Nr := Lib.hid (Fr.out.on z9)
    have Nu := Lib.hid (Fu.out.on z9)
    have Ns := Lib.hid (Fs.out.on z9)
    have Nx := Lib.hid (Fx.out.on z9)
    have NB := Lib.hid (bel_tr BW.out z9)
    clear BW z9 Fa Fb Fq Fr Fu Fs Fx
    have Fa := Na
    have Fb := Nb
    have Fq := Nq
    have Fr := Nr
    have Fu := Nu
    have Fs := Ns
    have Fx := Nx
    have BW := NB
    clear NB Na Nb Nq Nr Nu Ns Nx
    have Ls := Fs.out.lt
    have cs0 := Fs.out.c0
    have cs1 := Fs.out.c1
    have cs2 := Fs.out.c2
    have cs3 := Fs.out.c3
    have fs0 : v9.frozen? ⟨gs, 0, none⟩ = false := Fs.out.frozen 0
    have fs1 : v9.frozen? ⟨gs, 1, none⟩ = false := Fs.out.frozen 1
    have fs2 : v9.frozen? ⟨gs, 2, none⟩ = false := Fs.out.frozen 2
    have fs3 : v9.frozen? ⟨gs, 3, none⟩ = false := Fs.out.frozen 3
    go_wp2_with fail
    generalize hW10 : ((((v9.setCell ⟨gs, 0, none⟩ (.int .u64 (wd D 0 : Nat))).setCell ⟨gs, 1, none⟩ (.int .u64 (wd D 1 : Nat))).setCell ⟨gs, 2, none⟩ (.int .u64 (wd D 2 : Nat))).setCell ⟨gs, 3, none⟩ (.int .u64 (wd D 3 : Nat))) = W10 at *
    clear Ls cs0 cs1 cs2 cs3 fs0 fs1 fs2 fs3
    have Na_0 := at_of hW10 ((Fa.out).far4 Das _ _ _ _)
    have Nb_0 := at_of hW10 ((Fb.out).far4 Dbs _ _ _ _)
    have Nq_0 := at_of hW10 ((Fq.out).far4 Dqs _ _ _ _)
    have Nr_0 := at_of hW10 ((Fr.out).far4 Drs _ _ _ _)
    have Nu_0 := at_of hW10 ((Fu.out).far4 Dus _ _ _ _)
    have Ns_0 := at_of hW10 ((Fs.out).put4 _ _ _ _)
    have Nx_0 := at_of hW10 ((Fx.out).far4 Dsx.symm _ _ _ _)
    have NB_0 := gr_of hW10 (((((BW.out).setCell Es _).setCell Es _).setCell Es _).setCell Es _)
    have Na := Na_0
    have Nb := Nb_0
    have Nq := Nq_0
    have Nr := Nr_0
    have Nu := Nu_0
    have Ns := Ns_0
    have Nx := Nx_0
    have NB := NB_0
    clear BW Fa Fb Fq Fr Fu Fs Fx Na_0 Nb_0 Nq_0 Nr_0 Nu_0 Ns_0 Nx_0 NB_0
    clear hW10
    have Fa := Lib.hid Na
    have Fb := Lib.hid Nb
    have Fq := Lib.hid Nq
    have Fr := Lib.hid Nr
    have Fu := Lib.hid Nu
    have Fs := Lib.hid Ns
    have Fx := Lib.hid Nx
    have BW := Lib.hid NB
    clear NB Na Nb Nq Nr Nu Ns Nx
    clear Fx
    obtain ⟨k, hk⟩ : ∃ k, k = j / 64 := ⟨_, rfl⟩
    obtain ⟨jb, hjb⟩ : ∃ jb, jb = j % 64 := ⟨_, rfl⟩
    obtain ⟨tt, htt⟩ : ∃ tt, tt = 2 ^ jb := ⟨_, rfl⟩
    obtain ⟨Y2, hY2⟩ : ∃ Y, Y = (2 * Q + 1) * 2 ^ j := ⟨_, rfl⟩
    obtain ⟨ai, hsm⟩ := add_in Q j k jb HJ.out hk hjb
    rw [← HX1.out, ← hY2] at ai hsm
    rw [← htt] at ai
    have k4 : k < 4 := by have := HJ.out; omega
    have jb64 : jb < 64 := by omega
    have nl := wd_lt Y2 k
    have HK := Lib.hid hk; have HJB := Lib.hid hjb; have HTT := Lib.hid htt; have HY2 := Lib.hid hY2; have HAI := Lib.hid ai; have HSM := Lib.hid hsm; have HK4 := Lib.hid k4; have HJ64 := Lib.hid jb64; have HNL := Lib.hid nl
    clear hk hjb htt hY2 ai hsm k4 jb64 nl
    try simp only [List.append_eq, List.cons_append, List.nil_append]
    refine wp_region_noPanic ?_
    refine wp_region_held_drew (S := fun w' => True) (by kernel_rfl) (trivial) (fun _ => ?_)
    refine wpAnyH_cores (fuel := 1) (⟨0, 67, [], Kind.val (.int .i64 (j : Nat)), true⟩ :: ⟨1, 68, [0], Kind.val (.int .i64 (k : Nat)), true⟩ :: ⟨2, 69, [], Kind.val (.int .i64 (j : Nat)), true⟩ :: ⟨3, 70, [2], Kind.val (.int .i64 (k : Nat)), true⟩ :: ⟨4, 71, [3], Kind.val (.pointer (some ⟨gu, k, none⟩)), true⟩ :: ⟨5, 72, [4], Kind.val (.int .u64 (wd X1 k : Nat)), false⟩ :: ⟨6, 73, [], Kind.val (.int .i64 (j : Nat)), true⟩ :: ⟨7, 74, [6], Kind.val (.int .i64 (jb : Nat)), true⟩ :: ⟨8, 75, [7], Kind.val (.int .u64 (tt : Nat)), true⟩ :: ⟨9, 76, [5, 8], Kind.val (.int .u64 (wd Y2 k : Nat)), true⟩ :: ⟨10, 77, [1], Kind.val (.pointer (some ⟨gu, k, none⟩)), true⟩ :: []) _ _ W10 _ ?_ ?_ ?_ ?_ ?_ ?_ ?_ ?_ ?_ ?_ ?_
    ·rfl
    ·kernel_rfl
    ·exact of_decide_eq_true rfl
    ·(repeat refine all_cons ⟨_, rfl, rfl⟩ ?_); exact all_nil
    ·exact fun _ hb => trivial
    ·exact (Below.refl _ _).drew
    ·kernel_rfl
    ·exact fun _ _ _ _ _ h => h
    ·(repeat (refine all_cons ?_ ?_; rotate_left)); exact all_nil
     ·exact core_move _ _ _ _ _ _ (by rfl) (by rfl) (ko 9)
     ·exact core_held2C _ _ _ _ _ _ _ _ _ _ (by rfl) (by rfl) (kc 0 67) (known_const _) (fun ρ w hx hy _ => quoI_run _ _ _ _ _ _ _ ρ w j k HK.out HJ.out hx hy)
     ·exact core_move _ _ _ _ _ _ (by rfl) (by rfl) (ko 9)
     ·exact core_held2C _ _ _ _ _ _ _ _ _ _ (by rfl) (by rfl) (kc 2 69) (known_const _) (fun ρ w hx hy _ => quoI_run _ _ _ _ _ _ _ ρ w j k HK.out HJ.out hx hy)
     ·exact core_held2C _ _ _ _ _ _ _ _ _ _ (by rfl) (by rfl) (ko 7) (kc 3 70) (fun ρ w hx hy _ => index_run _ _ _ _ _ _ _ ρ w gu k HK4.out hx hy)
     ·exact core_pureAs _ (by rfl)
     ·exact core_move _ _ _ _ _ _ (by rfl) (by rfl) (ko 9)
     ·exact core_held2C _ _ _ _ _ _ _ _ _ _ (by rfl) (by rfl) (kc 6 73) (known_const _) (fun ρ w hx hy _ => remI_run _ _ _ _ _ _ _ ρ w j jb HJB.out HJ.out hx hy)
     ·exact core_held2C _ _ _ _ _ _ _ _ _ _ (by rfl) (by rfl) (known_const _) (kc 7 74) (fun ρ w hx hy _ => shlI_run _ _ _ _ _ _ _ ρ w jb tt HJ64.out HTT.out hx hy)
     ·exact core_held2C _ _ _ _ _ _ _ _ _ _ (by rfl) (by rfl) (kc 5 72) (kc 8 75) (fun ρ w hx hy _ => addU_run _ _ _ _ _ _ _ ρ w (wd X1 k) tt (wd Y2 k) HAI.out HNL.out hx hy)
     ·exact core_held2C _ _ _ _ _ _ _ _ _ _ (by rfl) (by rfl) (ko 7) (kc 1 68) (fun ρ w hx hy _ => index_run _ _ _ _ _ _ _ ρ w gu k HK4.out hx hy)
    ·(repeat (refine all_cons ?_ ?_; rotate_left)); exact all_nil
     ·exact sA
     ·exact sA
     ·exact sA
     ·exact sA
     ·exact sA
     ·exact fun _ => core_step _ _ _ _ _ _ _ _ (by rfl) (by rfl) (kc 4 71) (fun ρ w hx hb => load64_run _ _ _ _ _ _ ρ w gu k _ hx ((Fu.out.on hb).word HK4.out))
     ·exact sA
     ·exact sA
     ·exact sA
     ·exact sA
     ·exact sA
    intro vs y11 hc
    obtain ⟨vv0, vv1, vv2, vv3, vv4, vv5, vv6, vv7, vv8, vv9, vv10, rfl⟩ := len11 vs hc.lv
    have qq0 := okv hc 0
    have qq1 := okv hc 1
    have qq2 := okv hc 2
    have qq3 := okv hc 3
    have qq4 := okv hc 4
    have qq5 := okv hc 5
    have qq6 := okv hc 6
    have qq7 := okv hc 7
    have qq8 := okv hc 8
    have qq9 := okv hc 9
    have qq10 := okv hc 10
    have BZ := hc.bel
    clear hc
    have Na := Fa.out.on BZ
    have Nb := Fb.out.on BZ
    have Nq := Fq.out.on BZ
    have Nr := Fr.out.on BZ
    have Nu := Fu.out.on BZ
    have Ns := Fs.out.on BZ
    have HSZ11 := BW.out.size
    have NB := bel_tr BW.out BZ
    clear BW BZ Fa Fb Fq Fr Fu Fs
    subst qq0 qq1 qq2 qq3 qq4 qq5 qq6 qq7 qq8 qq9 qq10
    simp only [List.map_cons, List.map_nil, over, Act.put, List.setIfInBounds_toArray, List.set_cons_zero, List.set_cons_succ]
    have OLD := Nu
    replace Na := At.far Na (p := ⟨gu, k, none⟩) Dau.symm (.int .u64 (wd Y2 k : Nat))
    replace Nb := At.far Nb (p := ⟨gu, k, none⟩) Dbu.symm (.int .u64 (wd Y2 k : Nat))
    replace Nq := At.far Nq (p := ⟨gu, k, none⟩) Dqu.symm (.int .u64 (wd Y2 k : Nat))
    replace Nr := At.far Nr (p := ⟨gu, k, none⟩) Dru.symm (.int .u64 (wd Y2 k : Nat))
    replace Ns := At.far Ns (p := ⟨gu, k, none⟩) Dus (.int .u64 (wd Y2 k : Nat))
    have NEWC : At (y11.setCell ⟨gu, k, none⟩ (.int .u64 (wd Y2 k : Nat))) gu 24 #[.int .u64 (wd Y2 0 : Nat), .int .u64 (wd Y2 1 : Nat), .int .u64 (wd Y2 2 : Nat), .int .u64 (wd Y2 3 : Nat)] := by
     have := At.set Nu k (.int .u64 (wd Y2 k : Nat))
     rw [set_cell X1 Y2 k (wd Y2 k) HK4.out rfl HSM.out] at this; exact this
    replace Nu := NEWC
    clear NEWC
    have NBC : Below w.heap.size w (y11.setCell ⟨gu, k, none⟩ (.int .u64 (wd Y2 k : Nat))) := NB.setCell Eu _
    replace NB := NBC
    clear NBC
    refine store_word (i := 11) _ _ _ _ _ gu k _ _ (by kernel_rfl) (by rfl) (by rfl) (by rfl) (OLD.lt) (OLD.word HK4.out) (OLD.frozen k) (trivial) ?_
    clear OLD
    generalize (y11.setCell ⟨gu, k, none⟩ (.int .u64 (wd Y2 k : Nat))) = y11_11 at *
    refine wpAnyH_done (by kernel_rfl) ?_ _
    refine NoPanic.normal ?_
    have Fa := Lib.hid Na
    have Fb := Lib.hid Nb
    have Fq := Lib.hid Nq
    have Fr := Lib.hid Nr
    have Fu := Lib.hid Nu
    have Fs := Lib.hid Ns
    have BW := Lib.hid NB
    clear NB Na Nb Nq Nr Nu Ns
    clear HSZ11
    go_wp2_with fail
    go_roundw
    case rel =>
     have Nu := Fu.out
     rw [HY2.out] at Nu
     first
      | exact ⟨j, 2 * Q + 1, D, by have := HJ.out; omega, by go_num, Fa.out, Fb.out, Fq.out, Fr.out, Nu, Fs.out, BW.out, HDL.out.1, HDL.out.2⟩
      | ((repeat apply Exists.intro); exact ⟨⟨j, 2 * Q + 1, D, by have := HJ.out; omega, by go_num, Fa.out, Fb.out, Fq.out, Fr.out, Nu, Fs.out, BW.out, HDL.out.1, HDL.out.2⟩, rfl⟩)
    case measure => (simp [intOf] <;> omega)
   ·by_cases hge : B ≤ U
    ·obtain ⟨D, l, hD, hl, he2, _⟩ := sub_ex U B hU256 hB256
     have SU := rsub_any U B D l hU256 hB256 hD hl he2
     have hrb := HRB.out; have tot := HTOT.out; have z1 := HZ1.out
     have hdl : D < B ∧ A / 2 ^ j = (2 * Q + 1) * B + D := by
      have a3 := HA3.out
      have e : (2 * Q + 1) * B = 2 * (Q * B) + B := by rw [Nat.add_mul, Nat.one_mul, Nat.mul_assoc]
      rw [e]; constructor <;> omega
     have CM := rcmp_any U B hU256 hB256
     obtain ⟨cv, hcv⟩ : ∃ cv, cv = cmpN U B := ⟨_, rfl⟩
     rw [← hcv] at CM
     have cv0 : 0 ≤ cv := by rw [hcv]; unfold cmpN; rw [if_neg (by omega)]; split <;> omega
     have HSU := Lib.hid SU; have HDL := Lib.hid hdl; have HCM := Lib.hid CM
     clear SU hdl hD hl he2 CM hcv hrb tot z1 hc hr256 hB256 hU256 hge
     have j0 : (0 : Int) ≤ (j : Int) := by omega
     have Ls := Fs.out.lt
     have cs0 := Fs.out.c0
     have cs1 := Fs.out.c1
     have cs2 := Fs.out.c2
     have cs3 := Fs.out.c3
     go_wp2_with fail
     clear Ls cs0 cs1 cs2 cs3
     refine (HAD.out _).mono ?_
     rintro e v5 ⟨rfl, z5⟩
     have Na := Lib.hid (Fa.out.on z5)
     have Nb := Lib.hid (Fb.out.on z5)
     have Nq := Lib.hid (Fq.out.on z5)
     have Nr := Lib.hid (Fr.out.on z5)
     have Nu := Lib.hid (Fu.out.on z5)
     have Ns := Lib.hid (Fs.out.on z5)
     have NB := Lib.hid (bel_tr BW.out z5)
     clear BW z5 Fa Fb Fq Fr Fu Fs
     have Fa := Na
     have Fb := Nb
     have Fq := Nq
     have Fr := Nr
     have Fu := Nu
     have Fs := Ns
     have BW := NB
     clear NB Na Nb Nq Nr Nu Ns
     go_wp2_with fail
     generalize hW6 : (v5.alloc (.cells #[.int .u64 (wd S 0 : Nat), .int .u64 (wd S 1 : Nat), .int .u64 (wd S 2 : Nat), .int .u64 (wd S 3 : Nat)] 24)) = W6 at *
     have Nx : At W6 (v5.heap.size) _ _ := at_of hW6 (At.at_ _ _ _ _ (by simp))
     have Ex : w.heap.size ≤ v5.heap.size := by have := BW.out.size; omega
     have Dax : ga ≠ v5.heap.size := by have := Fa.out.lt; omega
     have Dbx : gb ≠ v5.heap.size := by have := Fb.out.lt; omega
     have Dqx : gq ≠ v5.heap.size := by have := Fq.out.lt; omega
     have Drx : gr ≠ v5.heap.size := by have := Fr.out.lt; omega
     have Dux : gu ≠ v5.heap.size := by have := Fu.out.lt; omega
     have Dsx : gs ≠ v5.heap.size := by have := Fs.out.lt; omega
     have Na := at_of hW6 (Fa.out.alloc _)
     have Nb := at_of hW6 (Fb.out.alloc _)
     have Nq := at_of hW6 (Fq.out.alloc _)
     have Nr := at_of hW6 (Fr.out.alloc _)
     have Nu := at_of hW6 (Fu.out.alloc _)
     have Ns := at_of hW6 (Fs.out.alloc _)
     have NB := gr_of hW6 (gr_alloc BW.out _)
     clear BW Fa Fb Fq Fr Fu Fs
     clear hW6
     generalize v5.heap.size = gx at *
     have Fa := Lib.hid Na
     have Fb := Lib.hid Nb
     have Fq := Lib.hid Nq
     have Fr := Lib.hid Nr
     have Fu := Lib.hid Nu
     have Fs := Lib.hid Ns
     have Fx := Lib.hid Nx
     have BW := Lib.hid NB
     clear NB Na Nb Nq Nr Nu Ns Nx
     try simp only [List.append_eq, List.cons_append, List.nil_append]
     refine wp_region_noPanic ?_
     refine wp_region_held_drew (S := fun w' => True) (by kernel_rfl) (trivial) (fun _ => ?_)
     refine wpAnyH_cores (fuel := 1) (⟨0, 45, [], Kind.val (.pointer (some ⟨gx, 0, none⟩)), true⟩ :: ⟨1, 46, [0], Kind.val (.int .u64 (wd S 0 : Nat)), false⟩ :: ⟨2, 47, [], Kind.val (.agg #[.int .u64 (wd A 0 : Nat), .int .u64 (wd A 1 : Nat), .int .u64 (wd A 2 : Nat), .int .u64 (wd A 3 : Nat)]), false⟩ :: ⟨3, 48, [], Kind.val (.int .i64 (j : Nat)), true⟩ :: ⟨4, 49, [2, 3], Kind.val (.int .u64 (z : Nat)), false⟩ :: ⟨5, 50, [1, 4], Kind.val (.int .u64 (wd U 0 : Nat)), true⟩ :: ⟨6, 51, [], Kind.val (.pointer (some ⟨gx, 0, none⟩)), true⟩ :: []) _ _ W6 _ ?_ ?_ ?_ ?_ ?_ ?_ ?_ ?_ ?_ ?_ ?_
     ·rfl
     ·kernel_rfl
     ·exact of_decide_eq_true rfl
     ·(repeat refine all_cons ⟨_, rfl, rfl⟩ ?_); exact all_nil
     ·exact fun _ hb => trivial
     ·exact (Below.refl _ _).drew
     ·kernel_rfl
     ·exact fun _ _ _ _ _ h => h
     ·(repeat (refine all_cons ?_ ?_; rotate_left)); exact all_nil
      ·exact core_held2C _ _ _ _ _ _ _ _ _ _ (by rfl) (by rfl) (ko 10) (known_const _) (fun ρ w hx hy _ => index_run _ _ _ _ _ _ _ ρ w gx 0 (by decide) hx hy)
      ·exact core_pureAs _ (by rfl)
      ·exact core_pureAs _ (by rfl)
      ·exact core_move _ _ _ _ _ _ (by rfl) (by rfl) (ko 9)
      ·exact core_pureAs _ (by rfl)
      ·exact core_held2C _ _ _ _ _ _ _ _ _ _ (by rfl) (by rfl) (kc 1 46) (kc 4 49) (fun ρ w hx hy _ => addU_run _ _ _ _ _ _ _ ρ w (wd S 0) z (wd U 0) HU0.out HUL.out hx hy)
      ·exact core_held2C _ _ _ _ _ _ _ _ _ _ (by rfl) (by rfl) (ko 10) (known_const _) (fun ρ w hx hy _ => index_run _ _ _ _ _ _ _ ρ w gx 0 (by decide) hx hy)
     ·(repeat (refine all_cons ?_ ?_; rotate_left)); exact all_nil
      ·exact sA
      ·exact fun _ => core_step _ _ _ _ _ _ _ _ (by rfl) (by rfl) (kc 0 45) (fun ρ w hx hb => load64_run _ _ _ _ _ _ ρ w gx 0 _ hx ((Fx.out.on hb).cell 0))
      ·exact fun _ => core_load _ _ _ _ _ ga _ _ _ _ (by rfl) (by rfl) (ko 2) Fa.out
      ·exact sA
      ·exact fun _ => core_call _ 66 _ _ [.tmp 47, .tmp 48] _ _ _ _ _ _ (by rfl) Try.func66 (by kernel_rfl) (by rfl) (by rfl) (.cons (kc 2 47) (.cons (kc 3 48) .nil)) (HBT.out)
      ·exact sA
      ·exact sA
     intro vs y7 hc
     obtain ⟨vv0, vv1, vv2, vv3, vv4, vv5, vv6, rfl⟩ := len7 vs hc.lv
     have qq0 := okv hc 0
     have qq1 := okv hc 1
     have qq2 := okv hc 2
     have qq3 := okv hc 3
     have qq4 := okv hc 4
     have qq5 := okv hc 5
     have qq6 := okv hc 6
     have BZ := hc.bel
     clear hc
     have Na := Fa.out.on BZ
     have Nb := Fb.out.on BZ
     have Nq := Fq.out.on BZ
     have Nr := Fr.out.on BZ
     have Nu := Fu.out.on BZ
     have Ns := Fs.out.on BZ
     have Nx := Fx.out.on BZ
     have HSZ7 := BW.out.size
     have NB := bel_tr BW.out BZ
     clear BW BZ Fa Fb Fq Fr Fu Fs Fx
     subst qq0 qq1 qq2 qq3 qq4 qq5 qq6
     simp only [List.map_cons, List.map_nil, over, Act.put, List.setIfInBounds_toArray, List.set_cons_zero, List.set_cons_succ]
     have OLD := Nx
     replace Na := At.far Na (p := ⟨gx, 0, none⟩) Dax.symm (.int .u64 (wd U 0 : Nat))
     replace Nb := At.far Nb (p := ⟨gx, 0, none⟩) Dbx.symm (.int .u64 (wd U 0 : Nat))
     replace Nq := At.far Nq (p := ⟨gx, 0, none⟩) Dqx.symm (.int .u64 (wd U 0 : Nat))
     replace Nr := At.far Nr (p := ⟨gx, 0, none⟩) Drx.symm (.int .u64 (wd U 0 : Nat))
     replace Nu := At.far Nu (p := ⟨gx, 0, none⟩) Dux.symm (.int .u64 (wd U 0 : Nat))
     replace Ns := At.far Ns (p := ⟨gx, 0, none⟩) Dsx.symm (.int .u64 (wd U 0 : Nat))
     have NEWC : At (y7.setCell ⟨gx, 0, none⟩ (.int .u64 (wd U 0 : Nat))) gx 24 #[.int .u64 (wd U 0 : Nat), .int .u64 (wd U 1 : Nat), .int .u64 (wd U 2 : Nat), .int .u64 (wd U 3 : Nat)] := by
      have := At.set Nx 0 (.int .u64 (wd U 0 : Nat))
      rw [set_cell S U 0 (wd U 0) (by decide) rfl HSAME.out] at this; exact this
     replace Nx := NEWC
     clear NEWC
     have NBC : Below w.heap.size w (y7.setCell ⟨gx, 0, none⟩ (.int .u64 (wd U 0 : Nat))) := NB.setCell Ex _
     replace NB := NBC
     clear NBC
     refine store_word (i := 7) _ _ _ _ _ gx 0 _ _ (by kernel_rfl) (by rfl) (by rfl) (by rfl) (OLD.lt) (OLD.cell 0) (OLD.frozen 0) (trivial) ?_
     clear OLD
     generalize (y7.setCell ⟨gx, 0, none⟩ (.int .u64 (wd U 0 : Nat))) = y7_7 at *
     refine wpAnyH_done (by kernel_rfl) ?_ _
     refine NoPanic.normal ?_
     have Fa := Lib.hid Na
     have Fb := Lib.hid Nb
     have Fq := Lib.hid Nq
     have Fr := Lib.hid Nr
     have Fu := Lib.hid Nu
     have Fs := Lib.hid Ns
     have Fx := Lib.hid Nx
     have BW := Lib.hid NB
     clear NB Na Nb Nq Nr Nu Ns Nx
     clear HSZ7
     have Lx := Fx.out.lt
     have cx0 := Fx.out.c0
     have cx1 := Fx.out.c1
     have cx2 := Fx.out.c2
     have cx3 := Fx.out.c3
     have Lb := Fb.out.lt
     have cb0 := Fb.out.c0
     have cb1 := Fb.out.c1
     have cb2 := Fb.out.c2
     have cb3 := Fb.out.c3
     have Ls := Fs.out.lt
     have cs0 := Fs.out.c0
     have cs1 := Fs.out.c1
     have cs2 := Fs.out.c2
     have cs3 := Fs.out.c3
     have fs0 : y7_7.frozen? ⟨gs, 0, none⟩ = false := Fs.out.frozen 0
     have fs1 : y7_7.frozen? ⟨gs, 1, none⟩ = false := Fs.out.frozen 1
     have fs2 : y7_7.frozen? ⟨gs, 2, none⟩ = false := Fs.out.frozen 2
     have fs3 : y7_7.frozen? ⟨gs, 3, none⟩ = false := Fs.out.frozen 3
     go_wp2_with fail
     generalize hW8 : ((((y7_7.setCell ⟨gs, 0, none⟩ (.int .u64 (wd U 0 : Nat))).setCell ⟨gs, 1, none⟩ (.int .u64 (wd U 1 : Nat))).setCell ⟨gs, 2, none⟩ (.int .u64 (wd U 2 : Nat))).setCell ⟨gs, 3, none⟩ (.int .u64 (wd U 3 : Nat))) = W8 at *
     clear Lx cx0 cx1 cx2 cx3 Lb cb0 cb1 cb2 cb3 Ls cs0 cs1 cs2 cs3 fs0 fs1 fs2 fs3
     have Na_0 := at_of hW8 ((Fa.out).far4 Das _ _ _ _)
     have Nb_0 := at_of hW8 ((Fb.out).far4 Dbs _ _ _ _)
     have Nq_0 := at_of hW8 ((Fq.out).far4 Dqs _ _ _ _)
     have Nr_0 := at_of hW8 ((Fr.out).far4 Drs _ _ _ _)
     have Nu_0 := at_of hW8 ((Fu.out).far4 Dus _ _ _ _)
     have Ns_0 := at_of hW8 ((Fs.out).put4 _ _ _ _)
     have Nx_0 := at_of hW8 ((Fx.out).far4 Dsx.symm _ _ _ _)
     have NB_0 := gr_of hW8 (((((BW.out).setCell Es _).setCell Es _).setCell Es _).setCell Es _)
     have Na := Na_0
     have Nb := Nb_0
     have Nq := Nq_0
     have Nr := Nr_0
     have Nu := Nu_0
     have Ns := Ns_0
     have Nx := Nx_0
     have NB := NB_0
     clear BW Fa Fb Fq Fr Fu Fs Fx Na_0 Nb_0 Nq_0 Nr_0 Nu_0 Ns_0 Nx_0 NB_0
     clear hW8
     have Fa := Lib.hid Na
     have Fb := Lib.hid Nb
     have Fq := Lib.hid Nq
     have Fr := Lib.hid Nr
     have Fu := Lib.hid Nu
     have Fs := Lib.hid Ns
     have Fx := Lib.hid Nx
     have BW := Lib.hid NB
     clear NB Na Nb Nq Nr Nu Ns Nx
     refine (HCM.out _).mono ?_
     rintro e v9 ⟨rfl, z9⟩
     have Na := Lib.hid (Fa.out.on z9)
     have Nb := Lib.hid (Fb.out.on z9)
     have Nq := Lib.hid (Fq.out.on z9)
     have Nr := Lib.hid (Fr.out.on z9)
     have Nu := Lib.hid (Fu.out.on z9)
     have Ns := Lib.hid (Fs.out.on z9)
     have Nx := Lib.hid (Fx.out.on z9)
     have NB := Lib.hid (bel_tr BW.out z9)
     clear BW z9 Fa Fb Fq Fr Fu Fs Fx
     have Fa := Na
     have Fb := Nb
     have Fq := Nq
     have Fr := Nr
     have Fu := Nu
     have Fs := Ns
     have Fx := Nx
     have BW := NB
     clear NB Na Nb Nq Nr Nu Ns Nx
     have Ls := Fs.out.lt
     have cs0 := Fs.out.c0
     have cs1 := Fs.out.c1
     have cs2 := Fs.out.c2
     have cs3 := Fs.out.c3
     have Lb := Fb.out.lt
     have cb0 := Fb.out.c0
     have cb1 := Fb.out.c1
     have cb2 := Fb.out.c2
     have cb3 := Fb.out.c3
     go_wp2_with fail
     clear Ls cs0 cs1 cs2 cs3 Lb cb0 cb1 cb2 cb3
     refine (HSU.out _).mono ?_
     rintro e v10 ⟨rfl, z10⟩
     have Na := Lib.hid (Fa.out.on z10)
     have Nb := Lib.hid (Fb.out.on z10)
     have Nq := Lib.hid (Fq.out.on z10)
     have Nr := Lib.hid (Fr.out.on z10)
     have Nu := Lib.hid (Fu.out.on z10)
     have Ns := Lib.hid (Fs.out.on z10)
     have Nx := Lib.hid (Fx.out.on z10)
     have NB := Lib.hid (bel_tr BW.out z10)
     clear BW z10 Fa Fb Fq Fr Fu Fs Fx
     have Fa := Na
     have Fb := Nb
     have Fq := Nq
     have Fr := Nr
     have Fu := Nu
     have Fs := Ns
     have Fx := Nx
     have BW := NB
     clear NB Na Nb Nq Nr Nu Ns Nx
     have Ls := Fs.out.lt
     have cs0 := Fs.out.c0
     have cs1 := Fs.out.c1
     have cs2 := Fs.out.c2
     have cs3 := Fs.out.c3
     have fs0 : v10.frozen? ⟨gs, 0, none⟩ = false := Fs.out.frozen 0
     have fs1 : v10.frozen? ⟨gs, 1, none⟩ = false := Fs.out.frozen 1
     have fs2 : v10.frozen? ⟨gs, 2, none⟩ = false := Fs.out.frozen 2
     have fs3 : v10.frozen? ⟨gs, 3, none⟩ = false := Fs.out.frozen 3
     go_wp2_with fail
     generalize hW11 : ((((v10.setCell ⟨gs, 0, none⟩ (.int .u64 (wd D 0 : Nat))).setCell ⟨gs, 1, none⟩ (.int .u64 (wd D 1 : Nat))).setCell ⟨gs, 2, none⟩ (.int .u64 (wd D 2 : Nat))).setCell ⟨gs, 3, none⟩ (.int .u64 (wd D 3 : Nat))) = W11 at *
     clear Ls cs0 cs1 cs2 cs3 fs0 fs1 fs2 fs3
     have Na_0 := at_of hW11 ((Fa.out).far4 Das _ _ _ _)
     have Nb_0 := at_of hW11 ((Fb.out).far4 Dbs _ _ _ _)
     have Nq_0 := at_of hW11 ((Fq.out).far4 Dqs _ _ _ _)
     have Nr_0 := at_of hW11 ((Fr.out).far4 Drs _ _ _ _)
     have Nu_0 := at_of hW11 ((Fu.out).far4 Dus _ _ _ _)
     have Ns_0 := at_of hW11 ((Fs.out).put4 _ _ _ _)
     have Nx_0 := at_of hW11 ((Fx.out).far4 Dsx.symm _ _ _ _)
     have NB_0 := gr_of hW11 (((((BW.out).setCell Es _).setCell Es _).setCell Es _).setCell Es _)
     have Na := Na_0
     have Nb := Nb_0
     have Nq := Nq_0
     have Nr := Nr_0
     have Nu := Nu_0
     have Ns := Ns_0
     have Nx := Nx_0
     have NB := NB_0
     clear BW Fa Fb Fq Fr Fu Fs Fx Na_0 Nb_0 Nq_0 Nr_0 Nu_0 Ns_0 Nx_0 NB_0
     clear hW11
     have Fa := Lib.hid Na
     have Fb := Lib.hid Nb
     have Fq := Lib.hid Nq
     have Fr := Lib.hid Nr
     have Fu := Lib.hid Nu
     have Fs := Lib.hid Ns
     have Fx := Lib.hid Nx
     have BW := Lib.hid NB
     clear NB Na Nb Nq Nr Nu Ns Nx
     clear Fx
     obtain ⟨k, hk⟩ : ∃ k, k = j / 64 := ⟨_, rfl⟩
     obtain ⟨jb, hjb⟩ : ∃ jb, jb = j % 64 := ⟨_, rfl⟩
     obtain ⟨tt, htt⟩ : ∃ tt, tt = 2 ^ jb := ⟨_, rfl⟩
     obtain ⟨Y2, hY2⟩ : ∃ Y, Y = (2 * Q + 1) * 2 ^ j := ⟨_, rfl⟩
     obtain ⟨ai, hsm⟩ := add_in Q j k jb HJ.out hk hjb
     rw [← HX1.out, ← hY2] at ai hsm
     rw [← htt] at ai
     have k4 : k < 4 := by have := HJ.out; omega
     have jb64 : jb < 64 := by omega
     have nl := wd_lt Y2 k
     have HK := Lib.hid hk; have HJB := Lib.hid hjb; have HTT := Lib.hid htt; have HY2 := Lib.hid hY2; have HAI := Lib.hid ai; have HSM := Lib.hid hsm; have HK4 := Lib.hid k4; have HJ64 := Lib.hid jb64; have HNL := Lib.hid nl
     clear hk hjb htt hY2 ai hsm k4 jb64 nl
     try simp only [List.append_eq, List.cons_append, List.nil_append]
     refine wp_region_noPanic ?_
     refine wp_region_held_drew (S := fun w' => True) (by kernel_rfl) (trivial) (fun _ => ?_)
     refine wpAnyH_cores (fuel := 1) (⟨0, 67, [], Kind.val (.int .i64 (j : Nat)), true⟩ :: ⟨1, 68, [0], Kind.val (.int .i64 (k : Nat)), true⟩ :: ⟨2, 69, [], Kind.val (.int .i64 (j : Nat)), true⟩ :: ⟨3, 70, [2], Kind.val (.int .i64 (k : Nat)), true⟩ :: ⟨4, 71, [3], Kind.val (.pointer (some ⟨gu, k, none⟩)), true⟩ :: ⟨5, 72, [4], Kind.val (.int .u64 (wd X1 k : Nat)), false⟩ :: ⟨6, 73, [], Kind.val (.int .i64 (j : Nat)), true⟩ :: ⟨7, 74, [6], Kind.val (.int .i64 (jb : Nat)), true⟩ :: ⟨8, 75, [7], Kind.val (.int .u64 (tt : Nat)), true⟩ :: ⟨9, 76, [5, 8], Kind.val (.int .u64 (wd Y2 k : Nat)), true⟩ :: ⟨10, 77, [1], Kind.val (.pointer (some ⟨gu, k, none⟩)), true⟩ :: []) _ _ W11 _ ?_ ?_ ?_ ?_ ?_ ?_ ?_ ?_ ?_ ?_ ?_
     ·rfl
     ·kernel_rfl
     ·exact of_decide_eq_true rfl
     ·(repeat refine all_cons ⟨_, rfl, rfl⟩ ?_); exact all_nil
     ·exact fun _ hb => trivial
     ·exact (Below.refl _ _).drew
     ·kernel_rfl
     ·exact fun _ _ _ _ _ h => h
     ·(repeat (refine all_cons ?_ ?_; rotate_left)); exact all_nil
      ·exact core_move _ _ _ _ _ _ (by rfl) (by rfl) (ko 9)
      ·exact core_held2C _ _ _ _ _ _ _ _ _ _ (by rfl) (by rfl) (kc 0 67) (known_const _) (fun ρ w hx hy _ => quoI_run _ _ _ _ _ _ _ ρ w j k HK.out HJ.out hx hy)
      ·exact core_move _ _ _ _ _ _ (by rfl) (by rfl) (ko 9)
      ·exact core_held2C _ _ _ _ _ _ _ _ _ _ (by rfl) (by rfl) (kc 2 69) (known_const _) (fun ρ w hx hy _ => quoI_run _ _ _ _ _ _ _ ρ w j k HK.out HJ.out hx hy)
      ·exact core_held2C _ _ _ _ _ _ _ _ _ _ (by rfl) (by rfl) (ko 7) (kc 3 70) (fun ρ w hx hy _ => index_run _ _ _ _ _ _ _ ρ w gu k HK4.out hx hy)
      ·exact core_pureAs _ (by rfl)
      ·exact core_move _ _ _ _ _ _ (by rfl) (by rfl) (ko 9)
      ·exact core_held2C _ _ _ _ _ _ _ _ _ _ (by rfl) (by rfl) (kc 6 73) (known_const _) (fun ρ w hx hy _ => remI_run _ _ _ _ _ _ _ ρ w j jb HJB.out HJ.out hx hy)
      ·exact core_held2C _ _ _ _ _ _ _ _ _ _ (by rfl) (by rfl) (known_const _) (kc 7 74) (fun ρ w hx hy _ => shlI_run _ _ _ _ _ _ _ ρ w jb tt HJ64.out HTT.out hx hy)
      ·exact core_held2C _ _ _ _ _ _ _ _ _ _ (by rfl) (by rfl) (kc 5 72) (kc 8 75) (fun ρ w hx hy _ => addU_run _ _ _ _ _ _ _ ρ w (wd X1 k) tt (wd Y2 k) HAI.out HNL.out hx hy)
      ·exact core_held2C _ _ _ _ _ _ _ _ _ _ (by rfl) (by rfl) (ko 7) (kc 1 68) (fun ρ w hx hy _ => index_run _ _ _ _ _ _ _ ρ w gu k HK4.out hx hy)
     ·(repeat (refine all_cons ?_ ?_; rotate_left)); exact all_nil
      ·exact sA
      ·exact sA
      ·exact sA
      ·exact sA
      ·exact sA
      ·exact fun _ => core_step _ _ _ _ _ _ _ _ (by rfl) (by rfl) (kc 4 71) (fun ρ w hx hb => load64_run _ _ _ _ _ _ ρ w gu k _ hx ((Fu.out.on hb).word HK4.out))
      ·exact sA
      ·exact sA
      ·exact sA
      ·exact sA
      ·exact sA
     intro vs y12 hc
     obtain ⟨vv0, vv1, vv2, vv3, vv4, vv5, vv6, vv7, vv8, vv9, vv10, rfl⟩ := len11 vs hc.lv
     have qq0 := okv hc 0
     have qq1 := okv hc 1
     have qq2 := okv hc 2
     have qq3 := okv hc 3
     have qq4 := okv hc 4
     have qq5 := okv hc 5
     have qq6 := okv hc 6
     have qq7 := okv hc 7
     have qq8 := okv hc 8
     have qq9 := okv hc 9
     have qq10 := okv hc 10
     have BZ := hc.bel
     clear hc
     have Na := Fa.out.on BZ
     have Nb := Fb.out.on BZ
     have Nq := Fq.out.on BZ
     have Nr := Fr.out.on BZ
     have Nu := Fu.out.on BZ
     have Ns := Fs.out.on BZ
     have HSZ12 := BW.out.size
     have NB := bel_tr BW.out BZ
     clear BW BZ Fa Fb Fq Fr Fu Fs
     subst qq0 qq1 qq2 qq3 qq4 qq5 qq6 qq7 qq8 qq9 qq10
     simp only [List.map_cons, List.map_nil, over, Act.put, List.setIfInBounds_toArray, List.set_cons_zero, List.set_cons_succ]
     have OLD := Nu
     replace Na := At.far Na (p := ⟨gu, k, none⟩) Dau.symm (.int .u64 (wd Y2 k : Nat))
     replace Nb := At.far Nb (p := ⟨gu, k, none⟩) Dbu.symm (.int .u64 (wd Y2 k : Nat))
     replace Nq := At.far Nq (p := ⟨gu, k, none⟩) Dqu.symm (.int .u64 (wd Y2 k : Nat))
     replace Nr := At.far Nr (p := ⟨gu, k, none⟩) Dru.symm (.int .u64 (wd Y2 k : Nat))
     replace Ns := At.far Ns (p := ⟨gu, k, none⟩) Dus (.int .u64 (wd Y2 k : Nat))
     have NEWC : At (y12.setCell ⟨gu, k, none⟩ (.int .u64 (wd Y2 k : Nat))) gu 24 #[.int .u64 (wd Y2 0 : Nat), .int .u64 (wd Y2 1 : Nat), .int .u64 (wd Y2 2 : Nat), .int .u64 (wd Y2 3 : Nat)] := by
      have := At.set Nu k (.int .u64 (wd Y2 k : Nat))
      rw [set_cell X1 Y2 k (wd Y2 k) HK4.out rfl HSM.out] at this; exact this
     replace Nu := NEWC
     clear NEWC
     have NBC : Below w.heap.size w (y12.setCell ⟨gu, k, none⟩ (.int .u64 (wd Y2 k : Nat))) := NB.setCell Eu _
     replace NB := NBC
     clear NBC
     refine store_word (i := 11) _ _ _ _ _ gu k _ _ (by kernel_rfl) (by rfl) (by rfl) (by rfl) (OLD.lt) (OLD.word HK4.out) (OLD.frozen k) (trivial) ?_
     clear OLD
     generalize (y12.setCell ⟨gu, k, none⟩ (.int .u64 (wd Y2 k : Nat))) = y12_11 at *
     refine wpAnyH_done (by kernel_rfl) ?_ _
     refine NoPanic.normal ?_
     have Fa := Lib.hid Na
     have Fb := Lib.hid Nb
     have Fq := Lib.hid Nq
     have Fr := Lib.hid Nr
     have Fu := Lib.hid Nu
     have Fs := Lib.hid Ns
     have BW := Lib.hid NB
     clear NB Na Nb Nq Nr Nu Ns
     clear HSZ12
     go_wp2_with fail
     go_roundw
     case rel =>
      have Nu := Fu.out
      rw [HY2.out] at Nu
      first
       | exact ⟨j, 2 * Q + 1, D, by have := HJ.out; omega, by go_num, Fa.out, Fb.out, Fq.out, Fr.out, Nu, Fs.out, BW.out, HDL.out.1, HDL.out.2⟩
       | ((repeat apply Exists.intro); exact ⟨⟨j, 2 * Q + 1, D, by have := HJ.out; omega, by go_num, Fa.out, Fb.out, Fq.out, Fr.out, Nu, Fs.out, BW.out, HDL.out.1, HDL.out.2⟩, rfl⟩)
     case measure => (simp [intOf] <;> omega)
    ·have hdl : U < B ∧ A / 2 ^ j = (2 * Q + 0) * B + U := by
      have a3 := HA3.out
      have e : (2 * Q + 0) * B = 2 * (Q * B) := by rw [Nat.add_zero, Nat.mul_assoc]
      rw [e]; constructor <;> omega
     have CM := rcmp_any U B hU256 hB256
     have cvn : cmpN U B = -1 := cmpN_lt (by omega)
     rw [cvn] at CM
     have HDL := Lib.hid hdl; have HCM := Lib.hid CM
     clear hdl CM cvn hc hr256 hB256 hU256 hge
     have j0 : (0 : Int) ≤ (j : Int) := by omega
     have Ls := Fs.out.lt
     have cs0 := Fs.out.c0
     have cs1 := Fs.out.c1
     have cs2 := Fs.out.c2
     have cs3 := Fs.out.c3
     go_wp2_with fail
     clear Ls cs0 cs1 cs2 cs3
     refine (HAD.out _).mono ?_
     rintro e v5 ⟨rfl, z5⟩
     have Na := Lib.hid (Fa.out.on z5)
     have Nb := Lib.hid (Fb.out.on z5)
     have Nq := Lib.hid (Fq.out.on z5)
     have Nr := Lib.hid (Fr.out.on z5)
     have Nu := Lib.hid (Fu.out.on z5)
     have Ns := Lib.hid (Fs.out.on z5)
     have NB := Lib.hid (bel_tr BW.out z5)
     clear BW z5 Fa Fb Fq Fr Fu Fs
     have Fa := Na
     have Fb := Nb
     have Fq := Nq
     have Fr := Nr
     have Fu := Nu
     have Fs := Ns
     have BW := NB
     clear NB Na Nb Nq Nr Nu Ns
     go_wp2_with fail
     generalize hW6 : (v5.alloc (.cells #[.int .u64 (wd S 0 : Nat), .int .u64 (wd S 1 : Nat), .int .u64 (wd S 2 : Nat), .int .u64 (wd S 3 : Nat)] 24)) = W6 at *
     have Nx : At W6 (v5.heap.size) _ _ := at_of hW6 (At.at_ _ _ _ _ (by simp))
     have Ex : w.heap.size ≤ v5.heap.size := by have := BW.out.size; omega
     have Dax : ga ≠ v5.heap.size := by have := Fa.out.lt; omega
     have Dbx : gb ≠ v5.heap.size := by have := Fb.out.lt; omega
     have Dqx : gq ≠ v5.heap.size := by have := Fq.out.lt; omega
     have Drx : gr ≠ v5.heap.size := by have := Fr.out.lt; omega
     have Dux : gu ≠ v5.heap.size := by have := Fu.out.lt; omega
     have Dsx : gs ≠ v5.heap.size := by have := Fs.out.lt; omega
     have Na := at_of hW6 (Fa.out.alloc _)
     have Nb := at_of hW6 (Fb.out.alloc _)
     have Nq := at_of hW6 (Fq.out.alloc _)
     have Nr := at_of hW6 (Fr.out.alloc _)
     have Nu := at_of hW6 (Fu.out.alloc _)
     have Ns := at_of hW6 (Fs.out.alloc _)
     have NB := gr_of hW6 (gr_alloc BW.out _)
     clear BW Fa Fb Fq Fr Fu Fs
     clear hW6
     generalize v5.heap.size = gx at *
     have Fa := Lib.hid Na
     have Fb := Lib.hid Nb
     have Fq := Lib.hid Nq
     have Fr := Lib.hid Nr
     have Fu := Lib.hid Nu
     have Fs := Lib.hid Ns
     have Fx := Lib.hid Nx
     have BW := Lib.hid NB
     clear NB Na Nb Nq Nr Nu Ns Nx
     try simp only [List.append_eq, List.cons_append, List.nil_append]
     refine wp_region_noPanic ?_
     refine wp_region_held_drew (S := fun w' => True) (by kernel_rfl) (trivial) (fun _ => ?_)
     refine wpAnyH_cores (fuel := 1) (⟨0, 45, [], Kind.val (.pointer (some ⟨gx, 0, none⟩)), true⟩ :: ⟨1, 46, [0], Kind.val (.int .u64 (wd S 0 : Nat)), false⟩ :: ⟨2, 47, [], Kind.val (.agg #[.int .u64 (wd A 0 : Nat), .int .u64 (wd A 1 : Nat), .int .u64 (wd A 2 : Nat), .int .u64 (wd A 3 : Nat)]), false⟩ :: ⟨3, 48, [], Kind.val (.int .i64 (j : Nat)), true⟩ :: ⟨4, 49, [2, 3], Kind.val (.int .u64 (z : Nat)), false⟩ :: ⟨5, 50, [1, 4], Kind.val (.int .u64 (wd U 0 : Nat)), true⟩ :: ⟨6, 51, [], Kind.val (.pointer (some ⟨gx, 0, none⟩)), true⟩ :: []) _ _ W6 _ ?_ ?_ ?_ ?_ ?_ ?_ ?_ ?_ ?_ ?_ ?_
     ·rfl
     ·kernel_rfl
     ·exact of_decide_eq_true rfl
     ·(repeat refine all_cons ⟨_, rfl, rfl⟩ ?_); exact all_nil
     ·exact fun _ hb => trivial
     ·exact (Below.refl _ _).drew
     ·kernel_rfl
     ·exact fun _ _ _ _ _ h => h
     ·(repeat (refine all_cons ?_ ?_; rotate_left)); exact all_nil
      ·exact core_held2C _ _ _ _ _ _ _ _ _ _ (by rfl) (by rfl) (ko 10) (known_const _) (fun ρ w hx hy _ => index_run _ _ _ _ _ _ _ ρ w gx 0 (by decide) hx hy)
      ·exact core_pureAs _ (by rfl)
      ·exact core_pureAs _ (by rfl)
      ·exact core_move _ _ _ _ _ _ (by rfl) (by rfl) (ko 9)
      ·exact core_pureAs _ (by rfl)
      ·exact core_held2C _ _ _ _ _ _ _ _ _ _ (by rfl) (by rfl) (kc 1 46) (kc 4 49) (fun ρ w hx hy _ => addU_run _ _ _ _ _ _ _ ρ w (wd S 0) z (wd U 0) HU0.out HUL.out hx hy)
      ·exact core_held2C _ _ _ _ _ _ _ _ _ _ (by rfl) (by rfl) (ko 10) (known_const _) (fun ρ w hx hy _ => index_run _ _ _ _ _ _ _ ρ w gx 0 (by decide) hx hy)
     ·(repeat (refine all_cons ?_ ?_; rotate_left)); exact all_nil
      ·exact sA
      ·exact fun _ => core_step _ _ _ _ _ _ _ _ (by rfl) (by rfl) (kc 0 45) (fun ρ w hx hb => load64_run _ _ _ _ _ _ ρ w gx 0 _ hx ((Fx.out.on hb).cell 0))
      ·exact fun _ => core_load _ _ _ _ _ ga _ _ _ _ (by rfl) (by rfl) (ko 2) Fa.out
      ·exact sA
      ·exact fun _ => core_call _ 66 _ _ [.tmp 47, .tmp 48] _ _ _ _ _ _ (by rfl) Try.func66 (by kernel_rfl) (by rfl) (by rfl) (.cons (kc 2 47) (.cons (kc 3 48) .nil)) (HBT.out)
      ·exact sA
      ·exact sA
     intro vs y7 hc
     obtain ⟨vv0, vv1, vv2, vv3, vv4, vv5, vv6, rfl⟩ := len7 vs hc.lv
     have qq0 := okv hc 0
     have qq1 := okv hc 1
     have qq2 := okv hc 2
     have qq3 := okv hc 3
     have qq4 := okv hc 4
     have qq5 := okv hc 5
     have qq6 := okv hc 6
     have BZ := hc.bel
     clear hc
     have Na := Fa.out.on BZ
     have Nb := Fb.out.on BZ
     have Nq := Fq.out.on BZ
     have Nr := Fr.out.on BZ
     have Nu := Fu.out.on BZ
     have Ns := Fs.out.on BZ
     have Nx := Fx.out.on BZ
     have HSZ7 := BW.out.size
     have NB := bel_tr BW.out BZ
     clear BW BZ Fa Fb Fq Fr Fu Fs Fx
     subst qq0 qq1 qq2 qq3 qq4 qq5 qq6
     simp only [List.map_cons, List.map_nil, over, Act.put, List.setIfInBounds_toArray, List.set_cons_zero, List.set_cons_succ]
     have OLD := Nx
     replace Na := At.far Na (p := ⟨gx, 0, none⟩) Dax.symm (.int .u64 (wd U 0 : Nat))
     replace Nb := At.far Nb (p := ⟨gx, 0, none⟩) Dbx.symm (.int .u64 (wd U 0 : Nat))
     replace Nq := At.far Nq (p := ⟨gx, 0, none⟩) Dqx.symm (.int .u64 (wd U 0 : Nat))
     replace Nr := At.far Nr (p := ⟨gx, 0, none⟩) Drx.symm (.int .u64 (wd U 0 : Nat))
     replace Nu := At.far Nu (p := ⟨gx, 0, none⟩) Dux.symm (.int .u64 (wd U 0 : Nat))
     replace Ns := At.far Ns (p := ⟨gx, 0, none⟩) Dsx.symm (.int .u64 (wd U 0 : Nat))
     have NEWC : At (y7.setCell ⟨gx, 0, none⟩ (.int .u64 (wd U 0 : Nat))) gx 24 #[.int .u64 (wd U 0 : Nat), .int .u64 (wd U 1 : Nat), .int .u64 (wd U 2 : Nat), .int .u64 (wd U 3 : Nat)] := by
      have := At.set Nx 0 (.int .u64 (wd U 0 : Nat))
      rw [set_cell S U 0 (wd U 0) (by decide) rfl HSAME.out] at this; exact this
     replace Nx := NEWC
     clear NEWC
     have NBC : Below w.heap.size w (y7.setCell ⟨gx, 0, none⟩ (.int .u64 (wd U 0 : Nat))) := NB.setCell Ex _
     replace NB := NBC
     clear NBC
     refine store_word (i := 7) _ _ _ _ _ gx 0 _ _ (by kernel_rfl) (by rfl) (by rfl) (by rfl) (OLD.lt) (OLD.cell 0) (OLD.frozen 0) (trivial) ?_
     clear OLD
     generalize (y7.setCell ⟨gx, 0, none⟩ (.int .u64 (wd U 0 : Nat))) = y7_7 at *
     refine wpAnyH_done (by kernel_rfl) ?_ _
     refine NoPanic.normal ?_
     have Fa := Lib.hid Na
     have Fb := Lib.hid Nb
     have Fq := Lib.hid Nq
     have Fr := Lib.hid Nr
     have Fu := Lib.hid Nu
     have Fs := Lib.hid Ns
     have Fx := Lib.hid Nx
     have BW := Lib.hid NB
     clear NB Na Nb Nq Nr Nu Ns Nx
     clear HSZ7
     have Lx := Fx.out.lt
     have cx0 := Fx.out.c0
     have cx1 := Fx.out.c1
     have cx2 := Fx.out.c2
     have cx3 := Fx.out.c3
     have Lb := Fb.out.lt
     have cb0 := Fb.out.c0
     have cb1 := Fb.out.c1
     have cb2 := Fb.out.c2
     have cb3 := Fb.out.c3
     have Ls := Fs.out.lt
     have cs0 := Fs.out.c0
     have cs1 := Fs.out.c1
     have cs2 := Fs.out.c2
     have cs3 := Fs.out.c3
     have fs0 : y7_7.frozen? ⟨gs, 0, none⟩ = false := Fs.out.frozen 0
     have fs1 : y7_7.frozen? ⟨gs, 1, none⟩ = false := Fs.out.frozen 1
     have fs2 : y7_7.frozen? ⟨gs, 2, none⟩ = false := Fs.out.frozen 2
     have fs3 : y7_7.frozen? ⟨gs, 3, none⟩ = false := Fs.out.frozen 3
     go_wp2_with fail
     generalize hW8 : ((((y7_7.setCell ⟨gs, 0, none⟩ (.int .u64 (wd U 0 : Nat))).setCell ⟨gs, 1, none⟩ (.int .u64 (wd U 1 : Nat))).setCell ⟨gs, 2, none⟩ (.int .u64 (wd U 2 : Nat))).setCell ⟨gs, 3, none⟩ (.int .u64 (wd U 3 : Nat))) = W8 at *
     clear Lx cx0 cx1 cx2 cx3 Lb cb0 cb1 cb2 cb3 Ls cs0 cs1 cs2 cs3 fs0 fs1 fs2 fs3
     have Na_0 := at_of hW8 ((Fa.out).far4 Das _ _ _ _)
     have Nb_0 := at_of hW8 ((Fb.out).far4 Dbs _ _ _ _)
     have Nq_0 := at_of hW8 ((Fq.out).far4 Dqs _ _ _ _)
     have Nr_0 := at_of hW8 ((Fr.out).far4 Drs _ _ _ _)
     have Nu_0 := at_of hW8 ((Fu.out).far4 Dus _ _ _ _)
     have Ns_0 := at_of hW8 ((Fs.out).put4 _ _ _ _)
     have Nx_0 := at_of hW8 ((Fx.out).far4 Dsx.symm _ _ _ _)
     have NB_0 := gr_of hW8 (((((BW.out).setCell Es _).setCell Es _).setCell Es _).setCell Es _)
     have Na := Na_0
     have Nb := Nb_0
     have Nq := Nq_0
     have Nr := Nr_0
     have Nu := Nu_0
     have Ns := Ns_0
     have Nx := Nx_0
     have NB := NB_0
     clear BW Fa Fb Fq Fr Fu Fs Fx Na_0 Nb_0 Nq_0 Nr_0 Nu_0 Ns_0 Nx_0 NB_0
     clear hW8
     have Fa := Lib.hid Na
     have Fb := Lib.hid Nb
     have Fq := Lib.hid Nq
     have Fr := Lib.hid Nr
     have Fu := Lib.hid Nu
     have Fs := Lib.hid Ns
     have Fx := Lib.hid Nx
     have BW := Lib.hid NB
     clear NB Na Nb Nq Nr Nu Ns Nx
     refine (HCM.out _).mono ?_
     rintro e v9 ⟨rfl, z9⟩
     have Na := Lib.hid (Fa.out.on z9)
     have Nb := Lib.hid (Fb.out.on z9)
     have Nq := Lib.hid (Fq.out.on z9)
     have Nr := Lib.hid (Fr.out.on z9)
     have Nu := Lib.hid (Fu.out.on z9)
     have Ns := Lib.hid (Fs.out.on z9)
     have Nx := Lib.hid (Fx.out.on z9)
     have NB := Lib.hid (bel_tr BW.out z9)
     clear BW z9 Fa Fb Fq Fr Fu Fs Fx
     have Fa := Na
     have Fb := Nb
     have Fq := Nq
     have Fr := Nr
     have Fu := Nu
     have Fs := Ns
     have Fx := Nx
     have BW := NB
     clear NB Na Nb Nq Nr Nu Ns Nx
     go_wp2_with fail
     go_roundw
     case rel =>
      have Nu := Fu.out
      rw [HX1.out, show Q * 2 ^ (j + 1) = (2 * Q + 0) * 2 ^ j by rw [Nat.pow_succ, Nat.add_zero]; ac_rfl] at Nu
      first
       | exact ⟨j, 2 * Q + 0, U, by have := HJ.out; omega, by go_num, Fa.out, Fb.out, Fq.out, Fr.out, Nu, Fs.out, BW.out, HDL.out.1, HDL.out.2⟩
       | ((repeat apply Exists.intro); exact ⟨⟨j, 2 * Q + 0, U, by have := HJ.out; omega, by go_num, Fa.out, Fb.out, Fq.out, Fr.out, Nu, Fs.out, BW.out, HDL.out.1, HDL.out.2⟩, rfl⟩)
     case measure => (simp [intOf] <;> omega)

/-- balefireref03.Div -/
theorem rdiv_any (A B : Nat) (hA : A < 2 ^ 256) (hB : B < 2 ^ 256) (h0 : B ≠ 0) (w : World) : Calls Try.prog 45 #[num A, num B] w fun e w' => e = .returned (.tuple #[num (A / B), num (A % B), .int .i64 0]) ∧ Below w.heap.size w w' := by
 have EQ : ∀ w, (Op.equalIn 10000 24 (num B) (.agg #[.int .u64 0, .int .u64 0, .int .u64 0, .int .u64 0])).run Try.prog w = .ok false w := fun w => by rw [eqZ B hB]; simp [h0]
 have WA := rword_any A hA
 have WB := rword_any B hB
 have w0 : ∀ X, X < 18446744073709551616 → wd X 0 = X := fun X h => by unfold wd; rw [Nat.pow_zero, Nat.div_one, Nat.mod_eq_of_lt h]
 by_cases ha : A < 18446744073709551616
 ·rw [show decide (A < 18446744073709551616) = true from decide_eq_true ha] at WA
  by_cases hb : B < 18446744073709551616
  ·rw [show decide (B < 18446744073709551616) = true from decide_eq_true hb] at WB
   have v1 : A / B < 18446744073709551616 := Nat.lt_of_le_of_lt (Nat.div_le_self _ _) ha
   have v2 : A % B < 18446744073709551616 := Nat.lt_of_le_of_lt (Nat.mod_le _ _) ha
   exact rdiv_w A B _ _ EQ (by rw [w0 B hb]; exact h0) (by rw [w0 A ha, w0 B hb]) (by rw [w0 A ha, w0 B hb]) v1 v2 WA WB (rof1_any _ v1) (rof1_any _ v2) w
  ·rw [show decide (B < 18446744073709551616) = false from decide_eq_false hb] at WB
   exact rdiv_l2 A B _ _ EQ hA hB (by omega) rfl rfl WA WB w
 ·rw [show decide (A < 18446744073709551616) = false from decide_eq_false ha] at WA
  exact rdiv_l1 A B _ _ EQ hA hB (by omega) rfl rfl WA w
end Go.Proofs.Ytodlpmepoakdlaa
