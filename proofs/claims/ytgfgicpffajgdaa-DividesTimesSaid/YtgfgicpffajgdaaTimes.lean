/-
  The walk of DividesTimes: it answers true, and nothing that was there is changed.
-/
import Derived.Test.YtgfgicpffajgdaaAlive3
namespace Go.Proofs.Ytgfgicpffajgdaa
open Go.RowKit
attribute [local go_sem ↓] Go.wp_at_zero Go.wp_at_succ

set_option maxRecDepth 100000 in
set_option maxHeartbeats 8000000 in
theorem times_p (A B n x y Z p q : Nat)
    (hn : n < 4294967296)
    (O : ∀ w, Calls Try.prog 36 #[.int .u64 0] w fun e w' => e = .returned (num Z) ∧ Below w.heap.size w w')
    (ON : ∀ w, Calls Try.prog 36 #[.int .u64 (n : Nat)] w fun e w' => e = .returned (num n) ∧ Below w.heap.size w w')
    (M1 : ∀ w, Calls Try.prog 15 #[num A, num n] w fun e w' => e = .returned (.tuple #[num x, num p]) ∧ Below w.heap.size w w')
    (M2 : ∀ w, Calls Try.prog 15 #[num B, num n] w fun e w' => e = .returned (.tuple #[num y, num q]) ∧ Below w.heap.size w w')
    (EP : ∀ w : World, (Op.equalIn 10000 24 (num p) (num Z)).run Try.prog w = .ok false w)
    (w : World) : Calls Try.prog 10 #[num A, num B, .int .u32 (n : Nat)] w fun e w' => e = .returned (.bool true) ∧ Below w.heap.size w w' := by
  have HO := Lib.hid O
  have HON := Lib.hid ON
  have HM1 := Lib.hid M1
  have HM2 := Lib.hid M2
  have HEP := Lib.hid EP
  clear O ON M1 M2 EP
  go_enter Try.func10, Try.ntmps10
  go_wp2_with fail
  have BW := Lib.hid (Below.refl w.heap.size w)
  have Na : At ((w.alloc (.cells #[.int .u64 (wd A 0 : Nat), .int .u64 (wd A 1 : Nat), .int .u64 (wd A 2 : Nat), .int .u64 (wd A 3 : Nat)] 24)).alloc (.cells #[.int .u64 (wd B 0 : Nat), .int .u64 (wd B 1 : Nat), .int .u64 (wd B 2 : Nat), .int .u64 (wd B 3 : Nat)] 24)) (w.heap.size) 24 #[.int .u64 (wd A 0 : Nat), .int .u64 (wd A 1 : Nat), .int .u64 (wd A 2 : Nat), .int .u64 (wd A 3 : Nat)] := (At.at_ _ _ _ _ (by simp)).alloc _
  have Nb : At ((w.alloc (.cells #[.int .u64 (wd A 0 : Nat), .int .u64 (wd A 1 : Nat), .int .u64 (wd A 2 : Nat), .int .u64 (wd A 3 : Nat)] 24)).alloc (.cells #[.int .u64 (wd B 0 : Nat), .int .u64 (wd B 1 : Nat), .int .u64 (wd B 2 : Nat), .int .u64 (wd B 3 : Nat)] 24)) (w.heap.size + 1) 24 #[.int .u64 (wd B 0 : Nat), .int .u64 (wd B 1 : Nat), .int .u64 (wd B 2 : Nat), .int .u64 (wd B 3 : Nat)] := At.at_ _ _ _ _ (by simp)
  have NB : Below w.heap.size w ((w.alloc (.cells #[.int .u64 (wd A 0 : Nat), .int .u64 (wd A 1 : Nat), .int .u64 (wd A 2 : Nat), .int .u64 (wd A 3 : Nat)] 24)).alloc (.cells #[.int .u64 (wd B 0 : Nat), .int .u64 (wd B 1 : Nat), .int .u64 (wd B 2 : Nat), .int .u64 (wd B 3 : Nat)] 24)) := gr_alloc (gr_alloc BW.out _) _
  clear BW 
  generalize ((w.alloc (.cells #[.int .u64 (wd A 0 : Nat), .int .u64 (wd A 1 : Nat), .int .u64 (wd A 2 : Nat), .int .u64 (wd A 3 : Nat)] 24)).alloc (.cells #[.int .u64 (wd B 0 : Nat), .int .u64 (wd B 1 : Nat), .int .u64 (wd B 2 : Nat), .int .u64 (wd B 3 : Nat)] 24)) = W1 at *
  generalize w.heap.size + 1 = gb at *
  obtain ⟨ga, hg0⟩ : ∃ g, g = w.heap.size := ⟨_, rfl⟩
  rw [← hg0] at Na ⊢
  clear hg0
  have Fa := Lib.hid Na
  have Fb := Lib.hid Nb
  have BW := Lib.hid NB
  clear NB Na Nb
  try simp only [List.append_eq, List.cons_append, List.nil_append]
  refine wp_region_noPanic ?_
  refine wp_region_held_drew (S := fun w' => True) (by kernel_rfl) (trivial) (fun _ => ?_)
  refine wpAnyH_cores (fuel := 2) (⟨0, 14, [], Kind.val (.agg #[.int .u64 (wd A 0 : Nat), .int .u64 (wd A 1 : Nat), .int .u64 (wd A 2 : Nat), .int .u64 (wd A 3 : Nat)]), false⟩ :: ⟨1, 15, [], Kind.val (.int .u32 (n : Nat)), true⟩ :: ⟨2, 16, [1], Kind.val (.int .u64 (n : Nat)), true⟩ :: ⟨3, 17, [2], Kind.val (.agg #[.int .u64 (wd n 0 : Nat), .int .u64 (wd n 1 : Nat), .int .u64 (wd n 2 : Nat), .int .u64 (wd n 3 : Nat)]), false⟩ :: ⟨4, 18, [0, 3], Kind.val (.tuple #[.agg #[.int .u64 (wd x 0 : Nat), .int .u64 (wd x 1 : Nat), .int .u64 (wd x 2 : Nat), .int .u64 (wd x 3 : Nat)], .agg #[.int .u64 (wd p 0 : Nat), .int .u64 (wd p 1 : Nat), .int .u64 (wd p 2 : Nat), .int .u64 (wd p 3 : Nat)]]), false⟩ :: ⟨5, 13, [4], Kind.val (.tuple #[.agg #[.int .u64 (wd x 0 : Nat), .int .u64 (wd x 1 : Nat), .int .u64 (wd x 2 : Nat), .int .u64 (wd x 3 : Nat)], .agg #[.int .u64 (wd p 0 : Nat), .int .u64 (wd p 1 : Nat), .int .u64 (wd p 2 : Nat), .int .u64 (wd p 3 : Nat)]]), true⟩ :: ⟨6, 19, [5], Kind.val (.agg #[.int .u64 (wd x 0 : Nat), .int .u64 (wd x 1 : Nat), .int .u64 (wd x 2 : Nat), .int .u64 (wd x 3 : Nat)]), true⟩ :: ⟨7, 20, [5], Kind.val (.agg #[.int .u64 (wd p 0 : Nat), .int .u64 (wd p 1 : Nat), .int .u64 (wd p 2 : Nat), .int .u64 (wd p 3 : Nat)]), true⟩ :: ⟨8, 7, [], Kind.cell W1.heap.size 24 #[.int .u64 0, .int .u64 0, .int .u64 0, .int .u64 0], false⟩ :: ⟨9, 8, [], Kind.cell W1.heap.size 24 #[.int .u64 0, .int .u64 0, .int .u64 0, .int .u64 0], false⟩ :: []) _ _ W1 _ ?_ ?_ ?_ ?_ ?_ ?_ ?_ ?_ ?_ ?_ ?_
  · rfl
  · kernel_rfl
  · exact of_decide_eq_true rfl
  · exact all_cons ⟨_, rfl, rfl⟩ (all_cons ⟨_, rfl, rfl⟩ (all_cons ⟨_, rfl, rfl⟩ (all_cons ⟨_, rfl, rfl⟩ (all_cons ⟨_, rfl, rfl⟩ (all_cons ⟨_, rfl, rfl⟩ (all_cons ⟨_, rfl, rfl⟩ (all_cons ⟨_, rfl, rfl⟩ (all_cons ⟨_, rfl, rfl⟩ (all_cons ⟨_, rfl, rfl⟩ (all_nil))))))))))
  · exact fun _ hb => trivial
  · exact (Below.refl _ _).drew
  · kernel_rfl
  · exact fun _ _ _ _ _ h => h
  · refine all_cons ?_ (all_cons ?_ (all_cons ?_ (all_cons ?_ (all_cons ?_ (all_cons ?_ (all_cons ?_ (all_cons ?_ (all_cons ?_ (all_cons ?_ (all_nil))))))))))
    · exact core_pureAs _ (by rfl)
    · exact core_move _ _ _ _ _ _ (by rfl) (by rfl) (known_old 2 _ (of_decide_eq_true (by rfl)) (by rfl))
    · exact coreG_conv _ _ _ _ _ _ _ _ _ _ (by rfl) (by rfl) wants_none (known_core 1 15 _ _ (of_decide_eq_true (by rfl)) (by rfl) (by rfl) (by rfl)) (fun ρ w hx => by simp only [execOp, hx]; simp [go_sem]; rw [IntKind.wrap_u64]; omega)
    · exact core_pureAs _ (by rfl)
    · exact core_pureAs _ (by rfl)
    · exact core_move _ _ _ _ _ _ (by rfl) (by rfl) (known_core 4 18 _ _ (of_decide_eq_true (by rfl)) (by rfl) (by rfl) (by rfl))
    · exact core_extract _ _ 0 _ _ _ _ _ (by rfl) (by rfl) (known_core 5 13 _ _ (of_decide_eq_true (by rfl)) (by rfl) (by rfl) (by rfl)) (by rfl)
    · exact core_extract _ _ 1 _ _ _ _ _ (by rfl) (by rfl) (known_core 5 13 _ _ (of_decide_eq_true (by rfl)) (by rfl) (by rfl) (by rfl)) (by rfl)
    · exact core_pureAs _ (by rfl)
    · exact core_pureAs _ (by rfl)
  · refine all_cons ?_ (all_cons ?_ (all_cons ?_ (all_cons ?_ (all_cons ?_ (all_cons ?_ (all_cons ?_ (all_cons ?_ (all_cons ?_ (all_cons ?_ (all_nil))))))))))
    · exact fun _ => core_load _ _ _ _ _ ga _ _ _ _ (by rfl) (by rfl) (known_old 3 _ (of_decide_eq_true (by rfl)) (by rfl)) Fa.out
    · exact core_stepAs _ (by rfl)
    · exact core_stepAs _ (by rfl)
    · exact fun _ => core_call _ 36 _ _ [.tmp 16] _ _ _ _ _ _ (by rfl) Try.func36 (by kernel_rfl) (by rfl) (by rfl) (.cons (known_core 2 16 _ _ (of_decide_eq_true (by rfl)) (by rfl) (by rfl) (by rfl)) .nil) (HON.out)
    · exact fun _ => core_call _ 15 _ _ [.tmp 14, .tmp 17] _ _ _ _ _ _ (by rfl) Try.func15 (by kernel_rfl) (by rfl) (by rfl) (.cons (known_core 0 14 _ _ (of_decide_eq_true (by rfl)) (by rfl) (by rfl) (by rfl)) (.cons (known_core 3 17 _ _ (of_decide_eq_true (by rfl)) (by rfl) (by rfl) (by rfl)) .nil)) (HM1.out)
    · exact core_stepAs _ (by rfl)
    · exact core_stepAs _ (by rfl)
    · exact core_stepAs _ (by rfl)
    · exact fun _ => core_alloc _ _ _ _ _ (by rfl) (by rfl) (Nat.le_refl _)
    · exact fun _ => core_alloc _ _ _ _ _ (by rfl) (by rfl) (Nat.le_refl _)
  intro vs y2 hc
  obtain ⟨vv0, vv1, vv2, vv3, vv4, vv5, vv6, vv7, vv8, vv9, rfl⟩ := len10 vs hc.lv
  have qq0 : vv0 = .agg #[.int .u64 (wd A 0 : Nat), .int .u64 (wd A 1 : Nat), .int .u64 (wd A 2 : Nat), .int .u64 (wd A 3 : Nat)] := by obtain ⟨xx, hx, hy⟩ := hc.ok 0 _ rfl rfl; exact (Option.some.inj (show some vv0 = some xx from hx)).trans hy
  have qq1 : vv1 = .int .u32 (n : Nat) := by obtain ⟨xx, hx, hy⟩ := hc.ok 1 _ rfl rfl; exact (Option.some.inj (show some vv1 = some xx from hx)).trans hy
  have qq2 : vv2 = .int .u64 (n : Nat) := by obtain ⟨xx, hx, hy⟩ := hc.ok 2 _ rfl rfl; exact (Option.some.inj (show some vv2 = some xx from hx)).trans hy
  have qq3 : vv3 = .agg #[.int .u64 (wd n 0 : Nat), .int .u64 (wd n 1 : Nat), .int .u64 (wd n 2 : Nat), .int .u64 (wd n 3 : Nat)] := by obtain ⟨xx, hx, hy⟩ := hc.ok 3 _ rfl rfl; exact (Option.some.inj (show some vv3 = some xx from hx)).trans hy
  have qq4 : vv4 = .tuple #[.agg #[.int .u64 (wd x 0 : Nat), .int .u64 (wd x 1 : Nat), .int .u64 (wd x 2 : Nat), .int .u64 (wd x 3 : Nat)], .agg #[.int .u64 (wd p 0 : Nat), .int .u64 (wd p 1 : Nat), .int .u64 (wd p 2 : Nat), .int .u64 (wd p 3 : Nat)]] := by obtain ⟨xx, hx, hy⟩ := hc.ok 4 _ rfl rfl; exact (Option.some.inj (show some vv4 = some xx from hx)).trans hy
  have qq5 : vv5 = .tuple #[.agg #[.int .u64 (wd x 0 : Nat), .int .u64 (wd x 1 : Nat), .int .u64 (wd x 2 : Nat), .int .u64 (wd x 3 : Nat)], .agg #[.int .u64 (wd p 0 : Nat), .int .u64 (wd p 1 : Nat), .int .u64 (wd p 2 : Nat), .int .u64 (wd p 3 : Nat)]] := by obtain ⟨xx, hx, hy⟩ := hc.ok 5 _ rfl rfl; exact (Option.some.inj (show some vv5 = some xx from hx)).trans hy
  have qq6 : vv6 = .agg #[.int .u64 (wd x 0 : Nat), .int .u64 (wd x 1 : Nat), .int .u64 (wd x 2 : Nat), .int .u64 (wd x 3 : Nat)] := by obtain ⟨xx, hx, hy⟩ := hc.ok 6 _ rfl rfl; exact (Option.some.inj (show some vv6 = some xx from hx)).trans hy
  have qq7 : vv7 = .agg #[.int .u64 (wd p 0 : Nat), .int .u64 (wd p 1 : Nat), .int .u64 (wd p 2 : Nat), .int .u64 (wd p 3 : Nat)] := by obtain ⟨xx, hx, hy⟩ := hc.ok 7 _ rfl rfl; exact (Option.some.inj (show some vv7 = some xx from hx)).trans hy
  obtain ⟨xx, hx, gx, hv, Ex, Ax⟩ := hc.ok 8 _ rfl rfl
  have qq8 : vv8 = .pointer (some ⟨gx, 0, none⟩) := (Option.some.inj (show some vv8 = some xx from hx)).trans hv
  clear hx hv
  obtain ⟨xx, hx, gp, hv, Ep, Ap⟩ := hc.ok 9 _ rfl rfl
  have qq9 : vv9 = .pointer (some ⟨gp, 0, none⟩) := (Option.some.inj (show some vv9 = some xx from hx)).trans hv
  clear hx hv
  have Dxp : gx ≠ gp := fun e => hc.far 8 9 _ _ rfl rfl rfl rfl (by decide) rfl rfl (by show some vv8 = some vv9; rw [qq8, qq9, e])
  have BZ := hc.bel
  clear hc
  have Na := Fa.out.on BZ
  have Nb := Fb.out.on BZ
  have Dax : ga ≠ gx := by have := Fa.out.lt; omega
  have Dbx : gb ≠ gx := by have := Fb.out.lt; omega
  have Dap : ga ≠ gp := by have := Fa.out.lt; omega
  have Dbp : gb ≠ gp := by have := Fb.out.lt; omega
  have HSZ2 := BW.out.size
  have NB := bel_tr BW.out BZ
  clear BW BZ Fa Fb
  subst qq0 qq1 qq2 qq3 qq4 qq5 qq6 qq7 qq8 qq9
  simp only [List.map_cons, List.map_nil, over, Act.put, List.setIfInBounds_toArray, List.set_cons_zero, List.set_cons_succ]
  have OLD := Ax
  replace Na := put4_far Na Dax (.int .u64 (wd x 0 : Nat)) (.int .u64 (wd x 1 : Nat)) (.int .u64 (wd x 2 : Nat)) (.int .u64 (wd x 3 : Nat))
  replace Nb := put4_far Nb Dbx (.int .u64 (wd x 0 : Nat)) (.int .u64 (wd x 1 : Nat)) (.int .u64 (wd x 2 : Nat)) (.int .u64 (wd x 3 : Nat))
  replace Ax := put4_at Ax (.int .u64 (wd x 0 : Nat)) (.int .u64 (wd x 1 : Nat)) (.int .u64 (wd x 2 : Nat)) (.int .u64 (wd x 3 : Nat))
  replace Ap := put4_far Ap Dxp.symm (.int .u64 (wd x 0 : Nat)) (.int .u64 (wd x 1 : Nat)) (.int .u64 (wd x 2 : Nat)) (.int .u64 (wd x 3 : Nat))
  replace NB := put4_below NB (Nat.le_trans HSZ2 Ex) (.int .u64 (wd x 0 : Nat)) (.int .u64 (wd x 1 : Nat)) (.int .u64 (wd x 2 : Nat)) (.int .u64 (wd x 3 : Nat))
  refine store_one (i := 10) _ _ _ _ _ gx _ _ _ _ _ _ _ _ (by kernel_rfl) (by rfl) (by rfl) (by rfl) OLD (trivial) ?_
  clear OLD
  generalize (put4 y2 gx (.int .u64 (wd x 0 : Nat)) (.int .u64 (wd x 1 : Nat)) (.int .u64 (wd x 2 : Nat)) (.int .u64 (wd x 3 : Nat))) = y2_10 at *
  have OLD := Ap
  replace Na := put4_far Na Dap (.int .u64 (wd p 0 : Nat)) (.int .u64 (wd p 1 : Nat)) (.int .u64 (wd p 2 : Nat)) (.int .u64 (wd p 3 : Nat))
  replace Nb := put4_far Nb Dbp (.int .u64 (wd p 0 : Nat)) (.int .u64 (wd p 1 : Nat)) (.int .u64 (wd p 2 : Nat)) (.int .u64 (wd p 3 : Nat))
  replace Ax := put4_far Ax Dxp (.int .u64 (wd p 0 : Nat)) (.int .u64 (wd p 1 : Nat)) (.int .u64 (wd p 2 : Nat)) (.int .u64 (wd p 3 : Nat))
  replace Ap := put4_at Ap (.int .u64 (wd p 0 : Nat)) (.int .u64 (wd p 1 : Nat)) (.int .u64 (wd p 2 : Nat)) (.int .u64 (wd p 3 : Nat))
  replace NB := put4_below NB (Nat.le_trans HSZ2 Ep) (.int .u64 (wd p 0 : Nat)) (.int .u64 (wd p 1 : Nat)) (.int .u64 (wd p 2 : Nat)) (.int .u64 (wd p 3 : Nat))
  refine store_one (i := 11) _ _ _ _ _ gp _ _ _ _ _ _ _ _ (by kernel_rfl) (by rfl) (by rfl) (by rfl) OLD (trivial) ?_
  clear OLD
  generalize (put4 y2_10 gp (.int .u64 (wd p 0 : Nat)) (.int .u64 (wd p 1 : Nat)) (.int .u64 (wd p 2 : Nat)) (.int .u64 (wd p 3 : Nat))) = y2_11 at *
  refine wpAnyH_done (by kernel_rfl) ?_ _
  refine NoPanic.normal ?_
  have Fa := Lib.hid Na
  have Fb := Lib.hid Nb
  have Fx := Lib.hid Ax
  have Fp := Lib.hid Ap
  have BW := Lib.hid NB
  clear NB Na Nb Ax Ap
  clear Ex
  clear Ep
  clear HSZ2
  go_wp2_with fail
  try simp only [List.append_eq, List.cons_append, List.nil_append]
  refine wp_region_noPanic ?_
  refine wp_region_held_drew (S := fun w' => True) (by kernel_rfl) (trivial) (fun _ => ?_)
  refine wpAnyH_cores (fuel := 2) (⟨0, 22, [], Kind.val (.agg #[.int .u64 (wd B 0 : Nat), .int .u64 (wd B 1 : Nat), .int .u64 (wd B 2 : Nat), .int .u64 (wd B 3 : Nat)]), false⟩ :: ⟨1, 23, [], Kind.val (.int .u32 (n : Nat)), true⟩ :: ⟨2, 24, [1], Kind.val (.int .u64 (n : Nat)), true⟩ :: ⟨3, 25, [2], Kind.val (.agg #[.int .u64 (wd n 0 : Nat), .int .u64 (wd n 1 : Nat), .int .u64 (wd n 2 : Nat), .int .u64 (wd n 3 : Nat)]), false⟩ :: ⟨4, 26, [0, 3], Kind.val (.tuple #[.agg #[.int .u64 (wd y 0 : Nat), .int .u64 (wd y 1 : Nat), .int .u64 (wd y 2 : Nat), .int .u64 (wd y 3 : Nat)], .agg #[.int .u64 (wd q 0 : Nat), .int .u64 (wd q 1 : Nat), .int .u64 (wd q 2 : Nat), .int .u64 (wd q 3 : Nat)]]), false⟩ :: ⟨5, 21, [4], Kind.val (.tuple #[.agg #[.int .u64 (wd y 0 : Nat), .int .u64 (wd y 1 : Nat), .int .u64 (wd y 2 : Nat), .int .u64 (wd y 3 : Nat)], .agg #[.int .u64 (wd q 0 : Nat), .int .u64 (wd q 1 : Nat), .int .u64 (wd q 2 : Nat), .int .u64 (wd q 3 : Nat)]]), true⟩ :: ⟨6, 27, [5], Kind.val (.agg #[.int .u64 (wd y 0 : Nat), .int .u64 (wd y 1 : Nat), .int .u64 (wd y 2 : Nat), .int .u64 (wd y 3 : Nat)]), true⟩ :: ⟨7, 28, [5], Kind.val (.agg #[.int .u64 (wd q 0 : Nat), .int .u64 (wd q 1 : Nat), .int .u64 (wd q 2 : Nat), .int .u64 (wd q 3 : Nat)]), true⟩ :: ⟨8, 9, [], Kind.cell y2_11.heap.size 24 #[.int .u64 0, .int .u64 0, .int .u64 0, .int .u64 0], false⟩ :: ⟨9, 10, [], Kind.cell y2_11.heap.size 24 #[.int .u64 0, .int .u64 0, .int .u64 0, .int .u64 0], false⟩ :: []) _ _ y2_11 _ ?_ ?_ ?_ ?_ ?_ ?_ ?_ ?_ ?_ ?_ ?_
  · rfl
  · kernel_rfl
  · exact of_decide_eq_true rfl
  · exact all_cons ⟨_, rfl, rfl⟩ (all_cons ⟨_, rfl, rfl⟩ (all_cons ⟨_, rfl, rfl⟩ (all_cons ⟨_, rfl, rfl⟩ (all_cons ⟨_, rfl, rfl⟩ (all_cons ⟨_, rfl, rfl⟩ (all_cons ⟨_, rfl, rfl⟩ (all_cons ⟨_, rfl, rfl⟩ (all_cons ⟨_, rfl, rfl⟩ (all_cons ⟨_, rfl, rfl⟩ (all_nil))))))))))
  · exact fun _ hb => trivial
  · exact (Below.refl _ _).drew
  · kernel_rfl
  · exact fun _ _ _ _ _ h => h
  · refine all_cons ?_ (all_cons ?_ (all_cons ?_ (all_cons ?_ (all_cons ?_ (all_cons ?_ (all_cons ?_ (all_cons ?_ (all_cons ?_ (all_cons ?_ (all_nil))))))))))
    · exact core_pureAs _ (by rfl)
    · exact core_move _ _ _ _ _ _ (by rfl) (by rfl) (known_old 2 _ (of_decide_eq_true (by rfl)) (by rfl))
    · exact coreG_conv _ _ _ _ _ _ _ _ _ _ (by rfl) (by rfl) wants_none (known_core 1 23 _ _ (of_decide_eq_true (by rfl)) (by rfl) (by rfl) (by rfl)) (fun ρ w hx => by simp only [execOp, hx]; simp [go_sem]; rw [IntKind.wrap_u64]; omega)
    · exact core_pureAs _ (by rfl)
    · exact core_pureAs _ (by rfl)
    · exact core_move _ _ _ _ _ _ (by rfl) (by rfl) (known_core 4 26 _ _ (of_decide_eq_true (by rfl)) (by rfl) (by rfl) (by rfl))
    · exact core_extract _ _ 0 _ _ _ _ _ (by rfl) (by rfl) (known_core 5 21 _ _ (of_decide_eq_true (by rfl)) (by rfl) (by rfl) (by rfl)) (by rfl)
    · exact core_extract _ _ 1 _ _ _ _ _ (by rfl) (by rfl) (known_core 5 21 _ _ (of_decide_eq_true (by rfl)) (by rfl) (by rfl) (by rfl)) (by rfl)
    · exact core_pureAs _ (by rfl)
    · exact core_pureAs _ (by rfl)
  · refine all_cons ?_ (all_cons ?_ (all_cons ?_ (all_cons ?_ (all_cons ?_ (all_cons ?_ (all_cons ?_ (all_cons ?_ (all_cons ?_ (all_cons ?_ (all_nil))))))))))
    · exact fun _ => core_load _ _ _ _ _ gb _ _ _ _ (by rfl) (by rfl) (known_old 4 _ (of_decide_eq_true (by rfl)) (by rfl)) Fb.out
    · exact core_stepAs _ (by rfl)
    · exact core_stepAs _ (by rfl)
    · exact fun _ => core_call _ 36 _ _ [.tmp 24] _ _ _ _ _ _ (by rfl) Try.func36 (by kernel_rfl) (by rfl) (by rfl) (.cons (known_core 2 24 _ _ (of_decide_eq_true (by rfl)) (by rfl) (by rfl) (by rfl)) .nil) (HON.out)
    · exact fun _ => core_call _ 15 _ _ [.tmp 22, .tmp 25] _ _ _ _ _ _ (by rfl) Try.func15 (by kernel_rfl) (by rfl) (by rfl) (.cons (known_core 0 22 _ _ (of_decide_eq_true (by rfl)) (by rfl) (by rfl) (by rfl)) (.cons (known_core 3 25 _ _ (of_decide_eq_true (by rfl)) (by rfl) (by rfl) (by rfl)) .nil)) (HM2.out)
    · exact core_stepAs _ (by rfl)
    · exact core_stepAs _ (by rfl)
    · exact core_stepAs _ (by rfl)
    · exact fun _ => core_alloc _ _ _ _ _ (by rfl) (by rfl) (Nat.le_refl _)
    · exact fun _ => core_alloc _ _ _ _ _ (by rfl) (by rfl) (Nat.le_refl _)
  intro vs y3 hc
  obtain ⟨vv0, vv1, vv2, vv3, vv4, vv5, vv6, vv7, vv8, vv9, rfl⟩ := len10 vs hc.lv
  have qq0 : vv0 = .agg #[.int .u64 (wd B 0 : Nat), .int .u64 (wd B 1 : Nat), .int .u64 (wd B 2 : Nat), .int .u64 (wd B 3 : Nat)] := by obtain ⟨xx, hx, hy⟩ := hc.ok 0 _ rfl rfl; exact (Option.some.inj (show some vv0 = some xx from hx)).trans hy
  have qq1 : vv1 = .int .u32 (n : Nat) := by obtain ⟨xx, hx, hy⟩ := hc.ok 1 _ rfl rfl; exact (Option.some.inj (show some vv1 = some xx from hx)).trans hy
  have qq2 : vv2 = .int .u64 (n : Nat) := by obtain ⟨xx, hx, hy⟩ := hc.ok 2 _ rfl rfl; exact (Option.some.inj (show some vv2 = some xx from hx)).trans hy
  have qq3 : vv3 = .agg #[.int .u64 (wd n 0 : Nat), .int .u64 (wd n 1 : Nat), .int .u64 (wd n 2 : Nat), .int .u64 (wd n 3 : Nat)] := by obtain ⟨xx, hx, hy⟩ := hc.ok 3 _ rfl rfl; exact (Option.some.inj (show some vv3 = some xx from hx)).trans hy
  have qq4 : vv4 = .tuple #[.agg #[.int .u64 (wd y 0 : Nat), .int .u64 (wd y 1 : Nat), .int .u64 (wd y 2 : Nat), .int .u64 (wd y 3 : Nat)], .agg #[.int .u64 (wd q 0 : Nat), .int .u64 (wd q 1 : Nat), .int .u64 (wd q 2 : Nat), .int .u64 (wd q 3 : Nat)]] := by obtain ⟨xx, hx, hy⟩ := hc.ok 4 _ rfl rfl; exact (Option.some.inj (show some vv4 = some xx from hx)).trans hy
  have qq5 : vv5 = .tuple #[.agg #[.int .u64 (wd y 0 : Nat), .int .u64 (wd y 1 : Nat), .int .u64 (wd y 2 : Nat), .int .u64 (wd y 3 : Nat)], .agg #[.int .u64 (wd q 0 : Nat), .int .u64 (wd q 1 : Nat), .int .u64 (wd q 2 : Nat), .int .u64 (wd q 3 : Nat)]] := by obtain ⟨xx, hx, hy⟩ := hc.ok 5 _ rfl rfl; exact (Option.some.inj (show some vv5 = some xx from hx)).trans hy
  have qq6 : vv6 = .agg #[.int .u64 (wd y 0 : Nat), .int .u64 (wd y 1 : Nat), .int .u64 (wd y 2 : Nat), .int .u64 (wd y 3 : Nat)] := by obtain ⟨xx, hx, hy⟩ := hc.ok 6 _ rfl rfl; exact (Option.some.inj (show some vv6 = some xx from hx)).trans hy
  have qq7 : vv7 = .agg #[.int .u64 (wd q 0 : Nat), .int .u64 (wd q 1 : Nat), .int .u64 (wd q 2 : Nat), .int .u64 (wd q 3 : Nat)] := by obtain ⟨xx, hx, hy⟩ := hc.ok 7 _ rfl rfl; exact (Option.some.inj (show some vv7 = some xx from hx)).trans hy
  obtain ⟨xx, hx, gy, hv, Ey, Ay⟩ := hc.ok 8 _ rfl rfl
  have qq8 : vv8 = .pointer (some ⟨gy, 0, none⟩) := (Option.some.inj (show some vv8 = some xx from hx)).trans hv
  clear hx hv
  obtain ⟨xx, hx, gq, hv, Eq, Aq⟩ := hc.ok 9 _ rfl rfl
  have qq9 : vv9 = .pointer (some ⟨gq, 0, none⟩) := (Option.some.inj (show some vv9 = some xx from hx)).trans hv
  clear hx hv
  have Dyq : gy ≠ gq := fun e => hc.far 8 9 _ _ rfl rfl rfl rfl (by decide) rfl rfl (by show some vv8 = some vv9; rw [qq8, qq9, e])
  have BZ := hc.bel
  clear hc
  have Na := Fa.out.on BZ
  have Nb := Fb.out.on BZ
  have Nx := Fx.out.on BZ
  have Np := Fp.out.on BZ
  have Day : ga ≠ gy := by have := Fa.out.lt; omega
  have Dby : gb ≠ gy := by have := Fb.out.lt; omega
  have Dxy : gx ≠ gy := by have := Fx.out.lt; omega
  have Dpy : gp ≠ gy := by have := Fp.out.lt; omega
  have Daq : ga ≠ gq := by have := Fa.out.lt; omega
  have Dbq : gb ≠ gq := by have := Fb.out.lt; omega
  have Dxq : gx ≠ gq := by have := Fx.out.lt; omega
  have Dpq : gp ≠ gq := by have := Fp.out.lt; omega
  have HSZ3 := BW.out.size
  have NB := bel_tr BW.out BZ
  clear BW BZ Fa Fb Fx Fp
  subst qq0 qq1 qq2 qq3 qq4 qq5 qq6 qq7 qq8 qq9
  simp only [List.map_cons, List.map_nil, over, Act.put, List.setIfInBounds_toArray, List.set_cons_zero, List.set_cons_succ]
  have OLD := Ay
  replace Na := put4_far Na Day (.int .u64 (wd y 0 : Nat)) (.int .u64 (wd y 1 : Nat)) (.int .u64 (wd y 2 : Nat)) (.int .u64 (wd y 3 : Nat))
  replace Nb := put4_far Nb Dby (.int .u64 (wd y 0 : Nat)) (.int .u64 (wd y 1 : Nat)) (.int .u64 (wd y 2 : Nat)) (.int .u64 (wd y 3 : Nat))
  replace Nx := put4_far Nx Dxy (.int .u64 (wd y 0 : Nat)) (.int .u64 (wd y 1 : Nat)) (.int .u64 (wd y 2 : Nat)) (.int .u64 (wd y 3 : Nat))
  replace Np := put4_far Np Dpy (.int .u64 (wd y 0 : Nat)) (.int .u64 (wd y 1 : Nat)) (.int .u64 (wd y 2 : Nat)) (.int .u64 (wd y 3 : Nat))
  replace Ay := put4_at Ay (.int .u64 (wd y 0 : Nat)) (.int .u64 (wd y 1 : Nat)) (.int .u64 (wd y 2 : Nat)) (.int .u64 (wd y 3 : Nat))
  replace Aq := put4_far Aq Dyq.symm (.int .u64 (wd y 0 : Nat)) (.int .u64 (wd y 1 : Nat)) (.int .u64 (wd y 2 : Nat)) (.int .u64 (wd y 3 : Nat))
  replace NB := put4_below NB (Nat.le_trans HSZ3 Ey) (.int .u64 (wd y 0 : Nat)) (.int .u64 (wd y 1 : Nat)) (.int .u64 (wd y 2 : Nat)) (.int .u64 (wd y 3 : Nat))
  refine store_one (i := 10) _ _ _ _ _ gy _ _ _ _ _ _ _ _ (by kernel_rfl) (by rfl) (by rfl) (by rfl) OLD (trivial) ?_
  clear OLD
  generalize (put4 y3 gy (.int .u64 (wd y 0 : Nat)) (.int .u64 (wd y 1 : Nat)) (.int .u64 (wd y 2 : Nat)) (.int .u64 (wd y 3 : Nat))) = y3_10 at *
  have OLD := Aq
  replace Na := put4_far Na Daq (.int .u64 (wd q 0 : Nat)) (.int .u64 (wd q 1 : Nat)) (.int .u64 (wd q 2 : Nat)) (.int .u64 (wd q 3 : Nat))
  replace Nb := put4_far Nb Dbq (.int .u64 (wd q 0 : Nat)) (.int .u64 (wd q 1 : Nat)) (.int .u64 (wd q 2 : Nat)) (.int .u64 (wd q 3 : Nat))
  replace Nx := put4_far Nx Dxq (.int .u64 (wd q 0 : Nat)) (.int .u64 (wd q 1 : Nat)) (.int .u64 (wd q 2 : Nat)) (.int .u64 (wd q 3 : Nat))
  replace Np := put4_far Np Dpq (.int .u64 (wd q 0 : Nat)) (.int .u64 (wd q 1 : Nat)) (.int .u64 (wd q 2 : Nat)) (.int .u64 (wd q 3 : Nat))
  replace Ay := put4_far Ay Dyq (.int .u64 (wd q 0 : Nat)) (.int .u64 (wd q 1 : Nat)) (.int .u64 (wd q 2 : Nat)) (.int .u64 (wd q 3 : Nat))
  replace Aq := put4_at Aq (.int .u64 (wd q 0 : Nat)) (.int .u64 (wd q 1 : Nat)) (.int .u64 (wd q 2 : Nat)) (.int .u64 (wd q 3 : Nat))
  replace NB := put4_below NB (Nat.le_trans HSZ3 Eq) (.int .u64 (wd q 0 : Nat)) (.int .u64 (wd q 1 : Nat)) (.int .u64 (wd q 2 : Nat)) (.int .u64 (wd q 3 : Nat))
  refine store_one (i := 11) _ _ _ _ _ gq _ _ _ _ _ _ _ _ (by kernel_rfl) (by rfl) (by rfl) (by rfl) OLD (trivial) ?_
  clear OLD
  generalize (put4 y3_10 gq (.int .u64 (wd q 0 : Nat)) (.int .u64 (wd q 1 : Nat)) (.int .u64 (wd q 2 : Nat)) (.int .u64 (wd q 3 : Nat))) = y3_11 at *
  refine wpAnyH_done (by kernel_rfl) ?_ _
  refine NoPanic.normal ?_
  have Fa := Lib.hid Na
  have Fb := Lib.hid Nb
  have Fx := Lib.hid Nx
  have Fp := Lib.hid Np
  have Fy := Lib.hid Ay
  have Fq := Lib.hid Aq
  have BW := Lib.hid NB
  clear NB Na Nb Nx Np Ay Aq
  clear Ey
  clear Eq
  clear HSZ3
  go_wp2_with fail
  try simp only [List.append_eq, List.cons_append, List.nil_append]
  refine wp_region_noPanic ?_
  refine wp_region_held_drew (S := fun w' => At w' gp 24 #[.int .u64 (wd p 0 : Nat), .int .u64 (wd p 1 : Nat), .int .u64 (wd p 2 : Nat), .int .u64 (wd p 3 : Nat)] ∧ At w' gq 24 #[.int .u64 (wd q 0 : Nat), .int .u64 (wd q 1 : Nat), .int .u64 (wd q 2 : Nat), .int .u64 (wd q 3 : Nat)]) (by kernel_rfl) (⟨Fp.out.drew, Fq.out.drew⟩) (fun _ => ?_)
  refine wpAnyH_cores (fuel := 0) (⟨0, 29, [], Kind.val (.agg #[.int .u64 (wd p 0 : Nat), .int .u64 (wd p 1 : Nat), .int .u64 (wd p 2 : Nat), .int .u64 (wd p 3 : Nat)]), true⟩ :: ⟨1, 30, [0], Kind.val (.agg #[.int .u64 (wd Z 0 : Nat), .int .u64 (wd Z 1 : Nat), .int .u64 (wd Z 2 : Nat), .int .u64 (wd Z 3 : Nat)]), false⟩ :: ⟨2, 31, [0, 1], Kind.val (.bool true), true⟩ :: ⟨3, 32, [2], Kind.val (.bool true), true⟩ :: ⟨4, 33, [3], Kind.val (undef), true⟩ :: ⟨5, 34, [3, 4], Kind.val (undef), true⟩ :: ⟨6, 35, [3, 4, 5], Kind.val (undef), true⟩ :: ⟨7, 36, [3, 6], Kind.val (.bool true), true⟩ :: []) _ _ y3_11 _ ?_ ?_ ?_ ?_ ?_ ?_ ?_ ?_ ?_ ?_ ?_
  · rfl
  · kernel_rfl
  · exact of_decide_eq_true (by kernel_rfl)
  · exact all_cons ⟨_, by rfl, by rfl⟩ (all_cons ⟨_, by rfl, by rfl⟩ (all_cons ⟨_, by rfl, by rfl⟩ (all_cons ⟨_, by rfl, by rfl⟩ (all_cons ⟨_, by rfl, by rfl⟩ (all_cons ⟨_, by rfl, by rfl⟩ (all_cons ⟨_, by rfl, by rfl⟩ (all_cons ⟨_, by rfl, by rfl⟩ (all_nil))))))))
  · exact fun _ hb => ⟨Fp.out.on hb, Fq.out.on hb⟩
  · exact (Below.refl _ _).drew
  · kernel_rfl
  · exact fun _ _ _ _ _ h => h
  · refine all_cons ?_ (all_cons ?_ (all_cons ?_ (all_cons ?_ (all_cons ?_ (all_cons ?_ (all_cons ?_ (all_cons ?_ (all_nil))))))))
    · exact coreG_loadP _ _ _ _ _ _ gp _ _ _ _ (by rfl) (by rfl) (wants_none) (known_old 8 _ (of_decide_eq_true (by rfl)) (by rfl)) (fun _ hs => hs.1)
    · exact core_pureAs _ (by rfl)
    · exact coreG_bin _ _ _ _ _ _ _ _ _ _ _ _ _ (by rfl) (by rfl) (wants_none) (known_core 0 29 _ _ (of_decide_eq_true (by rfl)) (by rfl) (by rfl) (by rfl)) (known_core 1 30 _ _ (of_decide_eq_true (by rfl)) (by rfl) (by rfl) (by rfl)) (neq_run false _ _ _ _ _ _ _ _ _ _ _ _ _ _ _ (HEP.out))
    · exact coreG_move _ _ _ _ _ _ _ (by rfl) (by rfl) (wants_none) (known_core 2 31 _ _ (of_decide_eq_true (by rfl)) (by rfl) (by rfl) (by rfl))
    · exact coreG_skip _ _ _ _ _ _ (by rfl) (by rfl) (wants_core 3 32 3 _ _ _ (by rfl) (by rfl) (by rfl) (known_core 3 32 _ _ (of_decide_eq_true (by rfl)) (by rfl) (by rfl) (by rfl)) _ (by rfl))
    · exact coreG_skip _ _ _ _ _ _ (by rfl) (by rfl) (wants_core 3 32 3 _ _ _ (by rfl) (by rfl) (by rfl) (known_core 3 32 _ _ (of_decide_eq_true (by rfl)) (by rfl) (by rfl) (by rfl)) _ (by rfl))
    · exact coreG_skip _ _ _ _ _ _ (by rfl) (by rfl) (wants_core 3 32 3 _ _ _ (by rfl) (by rfl) (by rfl) (known_core 3 32 _ _ (of_decide_eq_true (by rfl)) (by rfl) (by rfl) (by rfl)) _ (by rfl))
    · exact coreG_pick _ _ _ _ _ _ _ _ _ _ _ _ (by rfl) (by rfl) (wants_none) (known_core 3 32 _ _ (of_decide_eq_true (by rfl)) (by rfl) (by rfl) (by rfl)) (known_const _) (known_core 6 35 _ _ (of_decide_eq_true (by rfl)) (by rfl) (by rfl) (by rfl)) (by rfl)
  · refine all_cons ?_ (all_cons ?_ (all_cons ?_ (all_cons ?_ (all_cons ?_ (all_cons ?_ (all_cons ?_ (all_cons ?_ (all_nil))))))))
    · exact core_stepAs _ (by rfl)
    · exact fun _ => coreG_call _ 36 _ _ [.const (.int .u64 0)] _ _ _ _ _ _ _ (by rfl) Try.func36 (by kernel_rfl) (by rfl) (by rfl) (wants_none) (.cons (known_const _) .nil) (HO.out)
    · exact core_stepAs _ (by rfl)
    · exact core_stepAs _ (by rfl)
    · exact core_stepAs _ (by rfl)
    · exact core_stepAs _ (by rfl)
    · exact core_stepAs _ (by rfl)
    · exact core_stepAs _ (by rfl)
  intro vs y4 hc
  obtain ⟨vv0, vv1, vv2, vv3, vv4, vv5, vv6, vv7, rfl⟩ := len8 vs hc.lv
  have qq0 : vv0 = .agg #[.int .u64 (wd p 0 : Nat), .int .u64 (wd p 1 : Nat), .int .u64 (wd p 2 : Nat), .int .u64 (wd p 3 : Nat)] := by obtain ⟨xx, hx, hy⟩ := hc.ok 0 _ rfl rfl; exact (Option.some.inj (show some vv0 = some xx from hx)).trans hy
  have qq1 : vv1 = .agg #[.int .u64 (wd Z 0 : Nat), .int .u64 (wd Z 1 : Nat), .int .u64 (wd Z 2 : Nat), .int .u64 (wd Z 3 : Nat)] := by obtain ⟨xx, hx, hy⟩ := hc.ok 1 _ rfl rfl; exact (Option.some.inj (show some vv1 = some xx from hx)).trans hy
  have qq2 : vv2 = .bool true := by obtain ⟨xx, hx, hy⟩ := hc.ok 2 _ rfl rfl; exact (Option.some.inj (show some vv2 = some xx from hx)).trans hy
  have qq3 : vv3 = .bool true := by obtain ⟨xx, hx, hy⟩ := hc.ok 3 _ rfl rfl; exact (Option.some.inj (show some vv3 = some xx from hx)).trans hy
  have qq4 : vv4 = undef := by obtain ⟨xx, hx, hy⟩ := hc.ok 4 _ rfl rfl; exact (Option.some.inj (show some vv4 = some xx from hx)).trans hy
  have qq5 : vv5 = undef := by obtain ⟨xx, hx, hy⟩ := hc.ok 5 _ rfl rfl; exact (Option.some.inj (show some vv5 = some xx from hx)).trans hy
  have qq6 : vv6 = undef := by obtain ⟨xx, hx, hy⟩ := hc.ok 6 _ rfl rfl; exact (Option.some.inj (show some vv6 = some xx from hx)).trans hy
  have qq7 : vv7 = .bool true := by obtain ⟨xx, hx, hy⟩ := hc.ok 7 _ rfl rfl; exact (Option.some.inj (show some vv7 = some xx from hx)).trans hy
  have BZ := hc.bel
  clear hc
  have Na := Fa.out.on BZ
  have Nb := Fb.out.on BZ
  have Nx := Fx.out.on BZ
  have Np := Fp.out.on BZ
  have Ny := Fy.out.on BZ
  have Nq := Fq.out.on BZ
  have NB := bel_tr BW.out BZ
  clear BW BZ Fa Fb Fx Fp Fy Fq
  subst qq0 qq1 qq2 qq3 qq4 qq5 qq6 qq7
  simp only [List.map_cons, List.map_nil, over, Act.put, List.setIfInBounds_toArray, List.set_cons_zero, List.set_cons_succ]
  refine wpAnyH_done (by kernel_rfl) ?_ _
  refine NoPanic.normal ?_
  have Fa := Lib.hid Na
  have Fb := Lib.hid Nb
  have Fx := Lib.hid Nx
  have Fp := Lib.hid Np
  have Fy := Lib.hid Ny
  have Fq := Lib.hid Nq
  have BW := Lib.hid NB
  clear NB Na Nb Nx Np Ny Nq
  go_wp2_with fail
  refine (alive3_any _).mono ?_
  rintro e v5 ⟨rfl, z5⟩
  have Na := Lib.hid (Fa.out.on z5)
  have Nb := Lib.hid (Fb.out.on z5)
  have Nx := Lib.hid (Fx.out.on z5)
  have Np := Lib.hid (Fp.out.on z5)
  have Ny := Lib.hid (Fy.out.on z5)
  have Nq := Lib.hid (Fq.out.on z5)
  have NB := Lib.hid (bel_tr BW.out z5)
  clear BW z5 Fa Fb Fx Fp Fy Fq
  have Fa := Na
  have Fb := Nb
  have Fx := Nx
  have Fp := Np
  have Fy := Ny
  have Fq := Nq
  have BW := NB
  clear NB Na Nb Nx Np Ny Nq
  go_wp2_with fail
  go_ret
  exact ⟨rfl, BW.out⟩

set_option maxRecDepth 100000 in
set_option maxHeartbeats 8000000 in
theorem times_q (A B n x y Z q : Nat)
    (hn : n < 4294967296)
    (O : ∀ w, Calls Try.prog 36 #[.int .u64 0] w fun e w' => e = .returned (num Z) ∧ Below w.heap.size w w')
    (ON : ∀ w, Calls Try.prog 36 #[.int .u64 (n : Nat)] w fun e w' => e = .returned (num n) ∧ Below w.heap.size w w')
    (M1 : ∀ w, Calls Try.prog 15 #[num A, num n] w fun e w' => e = .returned (.tuple #[num x, num Z]) ∧ Below w.heap.size w w')
    (M2 : ∀ w, Calls Try.prog 15 #[num B, num n] w fun e w' => e = .returned (.tuple #[num y, num q]) ∧ Below w.heap.size w w')
    (EQ : ∀ w : World, (Op.equalIn 10000 24 (num q) (num Z)).run Try.prog w = .ok false w)
    (w : World) : Calls Try.prog 10 #[num A, num B, .int .u32 (n : Nat)] w fun e w' => e = .returned (.bool true) ∧ Below w.heap.size w w' := by
  have HO := Lib.hid O
  have HON := Lib.hid ON
  have HM1 := Lib.hid M1
  have HM2 := Lib.hid M2
  have HEQ := Lib.hid EQ
  clear O ON M1 M2 EQ
  go_enter Try.func10, Try.ntmps10
  go_wp2_with fail
  have BW := Lib.hid (Below.refl w.heap.size w)
  have Na : At ((w.alloc (.cells #[.int .u64 (wd A 0 : Nat), .int .u64 (wd A 1 : Nat), .int .u64 (wd A 2 : Nat), .int .u64 (wd A 3 : Nat)] 24)).alloc (.cells #[.int .u64 (wd B 0 : Nat), .int .u64 (wd B 1 : Nat), .int .u64 (wd B 2 : Nat), .int .u64 (wd B 3 : Nat)] 24)) (w.heap.size) 24 #[.int .u64 (wd A 0 : Nat), .int .u64 (wd A 1 : Nat), .int .u64 (wd A 2 : Nat), .int .u64 (wd A 3 : Nat)] := (At.at_ _ _ _ _ (by simp)).alloc _
  have Nb : At ((w.alloc (.cells #[.int .u64 (wd A 0 : Nat), .int .u64 (wd A 1 : Nat), .int .u64 (wd A 2 : Nat), .int .u64 (wd A 3 : Nat)] 24)).alloc (.cells #[.int .u64 (wd B 0 : Nat), .int .u64 (wd B 1 : Nat), .int .u64 (wd B 2 : Nat), .int .u64 (wd B 3 : Nat)] 24)) (w.heap.size + 1) 24 #[.int .u64 (wd B 0 : Nat), .int .u64 (wd B 1 : Nat), .int .u64 (wd B 2 : Nat), .int .u64 (wd B 3 : Nat)] := At.at_ _ _ _ _ (by simp)
  have NB : Below w.heap.size w ((w.alloc (.cells #[.int .u64 (wd A 0 : Nat), .int .u64 (wd A 1 : Nat), .int .u64 (wd A 2 : Nat), .int .u64 (wd A 3 : Nat)] 24)).alloc (.cells #[.int .u64 (wd B 0 : Nat), .int .u64 (wd B 1 : Nat), .int .u64 (wd B 2 : Nat), .int .u64 (wd B 3 : Nat)] 24)) := gr_alloc (gr_alloc BW.out _) _
  clear BW 
  generalize ((w.alloc (.cells #[.int .u64 (wd A 0 : Nat), .int .u64 (wd A 1 : Nat), .int .u64 (wd A 2 : Nat), .int .u64 (wd A 3 : Nat)] 24)).alloc (.cells #[.int .u64 (wd B 0 : Nat), .int .u64 (wd B 1 : Nat), .int .u64 (wd B 2 : Nat), .int .u64 (wd B 3 : Nat)] 24)) = W1 at *
  generalize w.heap.size + 1 = gb at *
  obtain ⟨ga, hg0⟩ : ∃ g, g = w.heap.size := ⟨_, rfl⟩
  rw [← hg0] at Na ⊢
  clear hg0
  have Fa := Lib.hid Na
  have Fb := Lib.hid Nb
  have BW := Lib.hid NB
  clear NB Na Nb
  try simp only [List.append_eq, List.cons_append, List.nil_append]
  refine wp_region_noPanic ?_
  refine wp_region_held_drew (S := fun w' => True) (by kernel_rfl) (trivial) (fun _ => ?_)
  refine wpAnyH_cores (fuel := 2) (⟨0, 14, [], Kind.val (.agg #[.int .u64 (wd A 0 : Nat), .int .u64 (wd A 1 : Nat), .int .u64 (wd A 2 : Nat), .int .u64 (wd A 3 : Nat)]), false⟩ :: ⟨1, 15, [], Kind.val (.int .u32 (n : Nat)), true⟩ :: ⟨2, 16, [1], Kind.val (.int .u64 (n : Nat)), true⟩ :: ⟨3, 17, [2], Kind.val (.agg #[.int .u64 (wd n 0 : Nat), .int .u64 (wd n 1 : Nat), .int .u64 (wd n 2 : Nat), .int .u64 (wd n 3 : Nat)]), false⟩ :: ⟨4, 18, [0, 3], Kind.val (.tuple #[.agg #[.int .u64 (wd x 0 : Nat), .int .u64 (wd x 1 : Nat), .int .u64 (wd x 2 : Nat), .int .u64 (wd x 3 : Nat)], .agg #[.int .u64 (wd Z 0 : Nat), .int .u64 (wd Z 1 : Nat), .int .u64 (wd Z 2 : Nat), .int .u64 (wd Z 3 : Nat)]]), false⟩ :: ⟨5, 13, [4], Kind.val (.tuple #[.agg #[.int .u64 (wd x 0 : Nat), .int .u64 (wd x 1 : Nat), .int .u64 (wd x 2 : Nat), .int .u64 (wd x 3 : Nat)], .agg #[.int .u64 (wd Z 0 : Nat), .int .u64 (wd Z 1 : Nat), .int .u64 (wd Z 2 : Nat), .int .u64 (wd Z 3 : Nat)]]), true⟩ :: ⟨6, 19, [5], Kind.val (.agg #[.int .u64 (wd x 0 : Nat), .int .u64 (wd x 1 : Nat), .int .u64 (wd x 2 : Nat), .int .u64 (wd x 3 : Nat)]), true⟩ :: ⟨7, 20, [5], Kind.val (.agg #[.int .u64 (wd Z 0 : Nat), .int .u64 (wd Z 1 : Nat), .int .u64 (wd Z 2 : Nat), .int .u64 (wd Z 3 : Nat)]), true⟩ :: ⟨8, 7, [], Kind.cell W1.heap.size 24 #[.int .u64 0, .int .u64 0, .int .u64 0, .int .u64 0], false⟩ :: ⟨9, 8, [], Kind.cell W1.heap.size 24 #[.int .u64 0, .int .u64 0, .int .u64 0, .int .u64 0], false⟩ :: []) _ _ W1 _ ?_ ?_ ?_ ?_ ?_ ?_ ?_ ?_ ?_ ?_ ?_
  · rfl
  · kernel_rfl
  · exact of_decide_eq_true rfl
  · exact all_cons ⟨_, rfl, rfl⟩ (all_cons ⟨_, rfl, rfl⟩ (all_cons ⟨_, rfl, rfl⟩ (all_cons ⟨_, rfl, rfl⟩ (all_cons ⟨_, rfl, rfl⟩ (all_cons ⟨_, rfl, rfl⟩ (all_cons ⟨_, rfl, rfl⟩ (all_cons ⟨_, rfl, rfl⟩ (all_cons ⟨_, rfl, rfl⟩ (all_cons ⟨_, rfl, rfl⟩ (all_nil))))))))))
  · exact fun _ hb => trivial
  · exact (Below.refl _ _).drew
  · kernel_rfl
  · exact fun _ _ _ _ _ h => h
  · refine all_cons ?_ (all_cons ?_ (all_cons ?_ (all_cons ?_ (all_cons ?_ (all_cons ?_ (all_cons ?_ (all_cons ?_ (all_cons ?_ (all_cons ?_ (all_nil))))))))))
    · exact core_pureAs _ (by rfl)
    · exact core_move _ _ _ _ _ _ (by rfl) (by rfl) (known_old 2 _ (of_decide_eq_true (by rfl)) (by rfl))
    · exact coreG_conv _ _ _ _ _ _ _ _ _ _ (by rfl) (by rfl) wants_none (known_core 1 15 _ _ (of_decide_eq_true (by rfl)) (by rfl) (by rfl) (by rfl)) (fun ρ w hx => by simp only [execOp, hx]; simp [go_sem]; rw [IntKind.wrap_u64]; omega)
    · exact core_pureAs _ (by rfl)
    · exact core_pureAs _ (by rfl)
    · exact core_move _ _ _ _ _ _ (by rfl) (by rfl) (known_core 4 18 _ _ (of_decide_eq_true (by rfl)) (by rfl) (by rfl) (by rfl))
    · exact core_extract _ _ 0 _ _ _ _ _ (by rfl) (by rfl) (known_core 5 13 _ _ (of_decide_eq_true (by rfl)) (by rfl) (by rfl) (by rfl)) (by rfl)
    · exact core_extract _ _ 1 _ _ _ _ _ (by rfl) (by rfl) (known_core 5 13 _ _ (of_decide_eq_true (by rfl)) (by rfl) (by rfl) (by rfl)) (by rfl)
    · exact core_pureAs _ (by rfl)
    · exact core_pureAs _ (by rfl)
  · refine all_cons ?_ (all_cons ?_ (all_cons ?_ (all_cons ?_ (all_cons ?_ (all_cons ?_ (all_cons ?_ (all_cons ?_ (all_cons ?_ (all_cons ?_ (all_nil))))))))))
    · exact fun _ => core_load _ _ _ _ _ ga _ _ _ _ (by rfl) (by rfl) (known_old 3 _ (of_decide_eq_true (by rfl)) (by rfl)) Fa.out
    · exact core_stepAs _ (by rfl)
    · exact core_stepAs _ (by rfl)
    · exact fun _ => core_call _ 36 _ _ [.tmp 16] _ _ _ _ _ _ (by rfl) Try.func36 (by kernel_rfl) (by rfl) (by rfl) (.cons (known_core 2 16 _ _ (of_decide_eq_true (by rfl)) (by rfl) (by rfl) (by rfl)) .nil) (HON.out)
    · exact fun _ => core_call _ 15 _ _ [.tmp 14, .tmp 17] _ _ _ _ _ _ (by rfl) Try.func15 (by kernel_rfl) (by rfl) (by rfl) (.cons (known_core 0 14 _ _ (of_decide_eq_true (by rfl)) (by rfl) (by rfl) (by rfl)) (.cons (known_core 3 17 _ _ (of_decide_eq_true (by rfl)) (by rfl) (by rfl) (by rfl)) .nil)) (HM1.out)
    · exact core_stepAs _ (by rfl)
    · exact core_stepAs _ (by rfl)
    · exact core_stepAs _ (by rfl)
    · exact fun _ => core_alloc _ _ _ _ _ (by rfl) (by rfl) (Nat.le_refl _)
    · exact fun _ => core_alloc _ _ _ _ _ (by rfl) (by rfl) (Nat.le_refl _)
  intro vs y2 hc
  obtain ⟨vv0, vv1, vv2, vv3, vv4, vv5, vv6, vv7, vv8, vv9, rfl⟩ := len10 vs hc.lv
  have qq0 : vv0 = .agg #[.int .u64 (wd A 0 : Nat), .int .u64 (wd A 1 : Nat), .int .u64 (wd A 2 : Nat), .int .u64 (wd A 3 : Nat)] := by obtain ⟨xx, hx, hy⟩ := hc.ok 0 _ rfl rfl; exact (Option.some.inj (show some vv0 = some xx from hx)).trans hy
  have qq1 : vv1 = .int .u32 (n : Nat) := by obtain ⟨xx, hx, hy⟩ := hc.ok 1 _ rfl rfl; exact (Option.some.inj (show some vv1 = some xx from hx)).trans hy
  have qq2 : vv2 = .int .u64 (n : Nat) := by obtain ⟨xx, hx, hy⟩ := hc.ok 2 _ rfl rfl; exact (Option.some.inj (show some vv2 = some xx from hx)).trans hy
  have qq3 : vv3 = .agg #[.int .u64 (wd n 0 : Nat), .int .u64 (wd n 1 : Nat), .int .u64 (wd n 2 : Nat), .int .u64 (wd n 3 : Nat)] := by obtain ⟨xx, hx, hy⟩ := hc.ok 3 _ rfl rfl; exact (Option.some.inj (show some vv3 = some xx from hx)).trans hy
  have qq4 : vv4 = .tuple #[.agg #[.int .u64 (wd x 0 : Nat), .int .u64 (wd x 1 : Nat), .int .u64 (wd x 2 : Nat), .int .u64 (wd x 3 : Nat)], .agg #[.int .u64 (wd Z 0 : Nat), .int .u64 (wd Z 1 : Nat), .int .u64 (wd Z 2 : Nat), .int .u64 (wd Z 3 : Nat)]] := by obtain ⟨xx, hx, hy⟩ := hc.ok 4 _ rfl rfl; exact (Option.some.inj (show some vv4 = some xx from hx)).trans hy
  have qq5 : vv5 = .tuple #[.agg #[.int .u64 (wd x 0 : Nat), .int .u64 (wd x 1 : Nat), .int .u64 (wd x 2 : Nat), .int .u64 (wd x 3 : Nat)], .agg #[.int .u64 (wd Z 0 : Nat), .int .u64 (wd Z 1 : Nat), .int .u64 (wd Z 2 : Nat), .int .u64 (wd Z 3 : Nat)]] := by obtain ⟨xx, hx, hy⟩ := hc.ok 5 _ rfl rfl; exact (Option.some.inj (show some vv5 = some xx from hx)).trans hy
  have qq6 : vv6 = .agg #[.int .u64 (wd x 0 : Nat), .int .u64 (wd x 1 : Nat), .int .u64 (wd x 2 : Nat), .int .u64 (wd x 3 : Nat)] := by obtain ⟨xx, hx, hy⟩ := hc.ok 6 _ rfl rfl; exact (Option.some.inj (show some vv6 = some xx from hx)).trans hy
  have qq7 : vv7 = .agg #[.int .u64 (wd Z 0 : Nat), .int .u64 (wd Z 1 : Nat), .int .u64 (wd Z 2 : Nat), .int .u64 (wd Z 3 : Nat)] := by obtain ⟨xx, hx, hy⟩ := hc.ok 7 _ rfl rfl; exact (Option.some.inj (show some vv7 = some xx from hx)).trans hy
  obtain ⟨xx, hx, gx, hv, Ex, Ax⟩ := hc.ok 8 _ rfl rfl
  have qq8 : vv8 = .pointer (some ⟨gx, 0, none⟩) := (Option.some.inj (show some vv8 = some xx from hx)).trans hv
  clear hx hv
  obtain ⟨xx, hx, gp, hv, Ep, Ap⟩ := hc.ok 9 _ rfl rfl
  have qq9 : vv9 = .pointer (some ⟨gp, 0, none⟩) := (Option.some.inj (show some vv9 = some xx from hx)).trans hv
  clear hx hv
  have Dxp : gx ≠ gp := fun e => hc.far 8 9 _ _ rfl rfl rfl rfl (by decide) rfl rfl (by show some vv8 = some vv9; rw [qq8, qq9, e])
  have BZ := hc.bel
  clear hc
  have Na := Fa.out.on BZ
  have Nb := Fb.out.on BZ
  have Dax : ga ≠ gx := by have := Fa.out.lt; omega
  have Dbx : gb ≠ gx := by have := Fb.out.lt; omega
  have Dap : ga ≠ gp := by have := Fa.out.lt; omega
  have Dbp : gb ≠ gp := by have := Fb.out.lt; omega
  have HSZ2 := BW.out.size
  have NB := bel_tr BW.out BZ
  clear BW BZ Fa Fb
  subst qq0 qq1 qq2 qq3 qq4 qq5 qq6 qq7 qq8 qq9
  simp only [List.map_cons, List.map_nil, over, Act.put, List.setIfInBounds_toArray, List.set_cons_zero, List.set_cons_succ]
  have OLD := Ax
  replace Na := put4_far Na Dax (.int .u64 (wd x 0 : Nat)) (.int .u64 (wd x 1 : Nat)) (.int .u64 (wd x 2 : Nat)) (.int .u64 (wd x 3 : Nat))
  replace Nb := put4_far Nb Dbx (.int .u64 (wd x 0 : Nat)) (.int .u64 (wd x 1 : Nat)) (.int .u64 (wd x 2 : Nat)) (.int .u64 (wd x 3 : Nat))
  replace Ax := put4_at Ax (.int .u64 (wd x 0 : Nat)) (.int .u64 (wd x 1 : Nat)) (.int .u64 (wd x 2 : Nat)) (.int .u64 (wd x 3 : Nat))
  replace Ap := put4_far Ap Dxp.symm (.int .u64 (wd x 0 : Nat)) (.int .u64 (wd x 1 : Nat)) (.int .u64 (wd x 2 : Nat)) (.int .u64 (wd x 3 : Nat))
  replace NB := put4_below NB (Nat.le_trans HSZ2 Ex) (.int .u64 (wd x 0 : Nat)) (.int .u64 (wd x 1 : Nat)) (.int .u64 (wd x 2 : Nat)) (.int .u64 (wd x 3 : Nat))
  refine store_one (i := 10) _ _ _ _ _ gx _ _ _ _ _ _ _ _ (by kernel_rfl) (by rfl) (by rfl) (by rfl) OLD (trivial) ?_
  clear OLD
  generalize (put4 y2 gx (.int .u64 (wd x 0 : Nat)) (.int .u64 (wd x 1 : Nat)) (.int .u64 (wd x 2 : Nat)) (.int .u64 (wd x 3 : Nat))) = y2_10 at *
  have OLD := Ap
  replace Na := put4_far Na Dap (.int .u64 (wd Z 0 : Nat)) (.int .u64 (wd Z 1 : Nat)) (.int .u64 (wd Z 2 : Nat)) (.int .u64 (wd Z 3 : Nat))
  replace Nb := put4_far Nb Dbp (.int .u64 (wd Z 0 : Nat)) (.int .u64 (wd Z 1 : Nat)) (.int .u64 (wd Z 2 : Nat)) (.int .u64 (wd Z 3 : Nat))
  replace Ax := put4_far Ax Dxp (.int .u64 (wd Z 0 : Nat)) (.int .u64 (wd Z 1 : Nat)) (.int .u64 (wd Z 2 : Nat)) (.int .u64 (wd Z 3 : Nat))
  replace Ap := put4_at Ap (.int .u64 (wd Z 0 : Nat)) (.int .u64 (wd Z 1 : Nat)) (.int .u64 (wd Z 2 : Nat)) (.int .u64 (wd Z 3 : Nat))
  replace NB := put4_below NB (Nat.le_trans HSZ2 Ep) (.int .u64 (wd Z 0 : Nat)) (.int .u64 (wd Z 1 : Nat)) (.int .u64 (wd Z 2 : Nat)) (.int .u64 (wd Z 3 : Nat))
  refine store_one (i := 11) _ _ _ _ _ gp _ _ _ _ _ _ _ _ (by kernel_rfl) (by rfl) (by rfl) (by rfl) OLD (trivial) ?_
  clear OLD
  generalize (put4 y2_10 gp (.int .u64 (wd Z 0 : Nat)) (.int .u64 (wd Z 1 : Nat)) (.int .u64 (wd Z 2 : Nat)) (.int .u64 (wd Z 3 : Nat))) = y2_11 at *
  refine wpAnyH_done (by kernel_rfl) ?_ _
  refine NoPanic.normal ?_
  have Fa := Lib.hid Na
  have Fb := Lib.hid Nb
  have Fx := Lib.hid Ax
  have Fp := Lib.hid Ap
  have BW := Lib.hid NB
  clear NB Na Nb Ax Ap
  clear Ex
  clear Ep
  clear HSZ2
  go_wp2_with fail
  try simp only [List.append_eq, List.cons_append, List.nil_append]
  refine wp_region_noPanic ?_
  refine wp_region_held_drew (S := fun w' => True) (by kernel_rfl) (trivial) (fun _ => ?_)
  refine wpAnyH_cores (fuel := 2) (⟨0, 22, [], Kind.val (.agg #[.int .u64 (wd B 0 : Nat), .int .u64 (wd B 1 : Nat), .int .u64 (wd B 2 : Nat), .int .u64 (wd B 3 : Nat)]), false⟩ :: ⟨1, 23, [], Kind.val (.int .u32 (n : Nat)), true⟩ :: ⟨2, 24, [1], Kind.val (.int .u64 (n : Nat)), true⟩ :: ⟨3, 25, [2], Kind.val (.agg #[.int .u64 (wd n 0 : Nat), .int .u64 (wd n 1 : Nat), .int .u64 (wd n 2 : Nat), .int .u64 (wd n 3 : Nat)]), false⟩ :: ⟨4, 26, [0, 3], Kind.val (.tuple #[.agg #[.int .u64 (wd y 0 : Nat), .int .u64 (wd y 1 : Nat), .int .u64 (wd y 2 : Nat), .int .u64 (wd y 3 : Nat)], .agg #[.int .u64 (wd q 0 : Nat), .int .u64 (wd q 1 : Nat), .int .u64 (wd q 2 : Nat), .int .u64 (wd q 3 : Nat)]]), false⟩ :: ⟨5, 21, [4], Kind.val (.tuple #[.agg #[.int .u64 (wd y 0 : Nat), .int .u64 (wd y 1 : Nat), .int .u64 (wd y 2 : Nat), .int .u64 (wd y 3 : Nat)], .agg #[.int .u64 (wd q 0 : Nat), .int .u64 (wd q 1 : Nat), .int .u64 (wd q 2 : Nat), .int .u64 (wd q 3 : Nat)]]), true⟩ :: ⟨6, 27, [5], Kind.val (.agg #[.int .u64 (wd y 0 : Nat), .int .u64 (wd y 1 : Nat), .int .u64 (wd y 2 : Nat), .int .u64 (wd y 3 : Nat)]), true⟩ :: ⟨7, 28, [5], Kind.val (.agg #[.int .u64 (wd q 0 : Nat), .int .u64 (wd q 1 : Nat), .int .u64 (wd q 2 : Nat), .int .u64 (wd q 3 : Nat)]), true⟩ :: ⟨8, 9, [], Kind.cell y2_11.heap.size 24 #[.int .u64 0, .int .u64 0, .int .u64 0, .int .u64 0], false⟩ :: ⟨9, 10, [], Kind.cell y2_11.heap.size 24 #[.int .u64 0, .int .u64 0, .int .u64 0, .int .u64 0], false⟩ :: []) _ _ y2_11 _ ?_ ?_ ?_ ?_ ?_ ?_ ?_ ?_ ?_ ?_ ?_
  · rfl
  · kernel_rfl
  · exact of_decide_eq_true rfl
  · exact all_cons ⟨_, rfl, rfl⟩ (all_cons ⟨_, rfl, rfl⟩ (all_cons ⟨_, rfl, rfl⟩ (all_cons ⟨_, rfl, rfl⟩ (all_cons ⟨_, rfl, rfl⟩ (all_cons ⟨_, rfl, rfl⟩ (all_cons ⟨_, rfl, rfl⟩ (all_cons ⟨_, rfl, rfl⟩ (all_cons ⟨_, rfl, rfl⟩ (all_cons ⟨_, rfl, rfl⟩ (all_nil))))))))))
  · exact fun _ hb => trivial
  · exact (Below.refl _ _).drew
  · kernel_rfl
  · exact fun _ _ _ _ _ h => h
  · refine all_cons ?_ (all_cons ?_ (all_cons ?_ (all_cons ?_ (all_cons ?_ (all_cons ?_ (all_cons ?_ (all_cons ?_ (all_cons ?_ (all_cons ?_ (all_nil))))))))))
    · exact core_pureAs _ (by rfl)
    · exact core_move _ _ _ _ _ _ (by rfl) (by rfl) (known_old 2 _ (of_decide_eq_true (by rfl)) (by rfl))
    · exact coreG_conv _ _ _ _ _ _ _ _ _ _ (by rfl) (by rfl) wants_none (known_core 1 23 _ _ (of_decide_eq_true (by rfl)) (by rfl) (by rfl) (by rfl)) (fun ρ w hx => by simp only [execOp, hx]; simp [go_sem]; rw [IntKind.wrap_u64]; omega)
    · exact core_pureAs _ (by rfl)
    · exact core_pureAs _ (by rfl)
    · exact core_move _ _ _ _ _ _ (by rfl) (by rfl) (known_core 4 26 _ _ (of_decide_eq_true (by rfl)) (by rfl) (by rfl) (by rfl))
    · exact core_extract _ _ 0 _ _ _ _ _ (by rfl) (by rfl) (known_core 5 21 _ _ (of_decide_eq_true (by rfl)) (by rfl) (by rfl) (by rfl)) (by rfl)
    · exact core_extract _ _ 1 _ _ _ _ _ (by rfl) (by rfl) (known_core 5 21 _ _ (of_decide_eq_true (by rfl)) (by rfl) (by rfl) (by rfl)) (by rfl)
    · exact core_pureAs _ (by rfl)
    · exact core_pureAs _ (by rfl)
  · refine all_cons ?_ (all_cons ?_ (all_cons ?_ (all_cons ?_ (all_cons ?_ (all_cons ?_ (all_cons ?_ (all_cons ?_ (all_cons ?_ (all_cons ?_ (all_nil))))))))))
    · exact fun _ => core_load _ _ _ _ _ gb _ _ _ _ (by rfl) (by rfl) (known_old 4 _ (of_decide_eq_true (by rfl)) (by rfl)) Fb.out
    · exact core_stepAs _ (by rfl)
    · exact core_stepAs _ (by rfl)
    · exact fun _ => core_call _ 36 _ _ [.tmp 24] _ _ _ _ _ _ (by rfl) Try.func36 (by kernel_rfl) (by rfl) (by rfl) (.cons (known_core 2 24 _ _ (of_decide_eq_true (by rfl)) (by rfl) (by rfl) (by rfl)) .nil) (HON.out)
    · exact fun _ => core_call _ 15 _ _ [.tmp 22, .tmp 25] _ _ _ _ _ _ (by rfl) Try.func15 (by kernel_rfl) (by rfl) (by rfl) (.cons (known_core 0 22 _ _ (of_decide_eq_true (by rfl)) (by rfl) (by rfl) (by rfl)) (.cons (known_core 3 25 _ _ (of_decide_eq_true (by rfl)) (by rfl) (by rfl) (by rfl)) .nil)) (HM2.out)
    · exact core_stepAs _ (by rfl)
    · exact core_stepAs _ (by rfl)
    · exact core_stepAs _ (by rfl)
    · exact fun _ => core_alloc _ _ _ _ _ (by rfl) (by rfl) (Nat.le_refl _)
    · exact fun _ => core_alloc _ _ _ _ _ (by rfl) (by rfl) (Nat.le_refl _)
  intro vs y3 hc
  obtain ⟨vv0, vv1, vv2, vv3, vv4, vv5, vv6, vv7, vv8, vv9, rfl⟩ := len10 vs hc.lv
  have qq0 : vv0 = .agg #[.int .u64 (wd B 0 : Nat), .int .u64 (wd B 1 : Nat), .int .u64 (wd B 2 : Nat), .int .u64 (wd B 3 : Nat)] := by obtain ⟨xx, hx, hy⟩ := hc.ok 0 _ rfl rfl; exact (Option.some.inj (show some vv0 = some xx from hx)).trans hy
  have qq1 : vv1 = .int .u32 (n : Nat) := by obtain ⟨xx, hx, hy⟩ := hc.ok 1 _ rfl rfl; exact (Option.some.inj (show some vv1 = some xx from hx)).trans hy
  have qq2 : vv2 = .int .u64 (n : Nat) := by obtain ⟨xx, hx, hy⟩ := hc.ok 2 _ rfl rfl; exact (Option.some.inj (show some vv2 = some xx from hx)).trans hy
  have qq3 : vv3 = .agg #[.int .u64 (wd n 0 : Nat), .int .u64 (wd n 1 : Nat), .int .u64 (wd n 2 : Nat), .int .u64 (wd n 3 : Nat)] := by obtain ⟨xx, hx, hy⟩ := hc.ok 3 _ rfl rfl; exact (Option.some.inj (show some vv3 = some xx from hx)).trans hy
  have qq4 : vv4 = .tuple #[.agg #[.int .u64 (wd y 0 : Nat), .int .u64 (wd y 1 : Nat), .int .u64 (wd y 2 : Nat), .int .u64 (wd y 3 : Nat)], .agg #[.int .u64 (wd q 0 : Nat), .int .u64 (wd q 1 : Nat), .int .u64 (wd q 2 : Nat), .int .u64 (wd q 3 : Nat)]] := by obtain ⟨xx, hx, hy⟩ := hc.ok 4 _ rfl rfl; exact (Option.some.inj (show some vv4 = some xx from hx)).trans hy
  have qq5 : vv5 = .tuple #[.agg #[.int .u64 (wd y 0 : Nat), .int .u64 (wd y 1 : Nat), .int .u64 (wd y 2 : Nat), .int .u64 (wd y 3 : Nat)], .agg #[.int .u64 (wd q 0 : Nat), .int .u64 (wd q 1 : Nat), .int .u64 (wd q 2 : Nat), .int .u64 (wd q 3 : Nat)]] := by obtain ⟨xx, hx, hy⟩ := hc.ok 5 _ rfl rfl; exact (Option.some.inj (show some vv5 = some xx from hx)).trans hy
  have qq6 : vv6 = .agg #[.int .u64 (wd y 0 : Nat), .int .u64 (wd y 1 : Nat), .int .u64 (wd y 2 : Nat), .int .u64 (wd y 3 : Nat)] := by obtain ⟨xx, hx, hy⟩ := hc.ok 6 _ rfl rfl; exact (Option.some.inj (show some vv6 = some xx from hx)).trans hy
  have qq7 : vv7 = .agg #[.int .u64 (wd q 0 : Nat), .int .u64 (wd q 1 : Nat), .int .u64 (wd q 2 : Nat), .int .u64 (wd q 3 : Nat)] := by obtain ⟨xx, hx, hy⟩ := hc.ok 7 _ rfl rfl; exact (Option.some.inj (show some vv7 = some xx from hx)).trans hy
  obtain ⟨xx, hx, gy, hv, Ey, Ay⟩ := hc.ok 8 _ rfl rfl
  have qq8 : vv8 = .pointer (some ⟨gy, 0, none⟩) := (Option.some.inj (show some vv8 = some xx from hx)).trans hv
  clear hx hv
  obtain ⟨xx, hx, gq, hv, Eq, Aq⟩ := hc.ok 9 _ rfl rfl
  have qq9 : vv9 = .pointer (some ⟨gq, 0, none⟩) := (Option.some.inj (show some vv9 = some xx from hx)).trans hv
  clear hx hv
  have Dyq : gy ≠ gq := fun e => hc.far 8 9 _ _ rfl rfl rfl rfl (by decide) rfl rfl (by show some vv8 = some vv9; rw [qq8, qq9, e])
  have BZ := hc.bel
  clear hc
  have Na := Fa.out.on BZ
  have Nb := Fb.out.on BZ
  have Nx := Fx.out.on BZ
  have Np := Fp.out.on BZ
  have Day : ga ≠ gy := by have := Fa.out.lt; omega
  have Dby : gb ≠ gy := by have := Fb.out.lt; omega
  have Dxy : gx ≠ gy := by have := Fx.out.lt; omega
  have Dpy : gp ≠ gy := by have := Fp.out.lt; omega
  have Daq : ga ≠ gq := by have := Fa.out.lt; omega
  have Dbq : gb ≠ gq := by have := Fb.out.lt; omega
  have Dxq : gx ≠ gq := by have := Fx.out.lt; omega
  have Dpq : gp ≠ gq := by have := Fp.out.lt; omega
  have HSZ3 := BW.out.size
  have NB := bel_tr BW.out BZ
  clear BW BZ Fa Fb Fx Fp
  subst qq0 qq1 qq2 qq3 qq4 qq5 qq6 qq7 qq8 qq9
  simp only [List.map_cons, List.map_nil, over, Act.put, List.setIfInBounds_toArray, List.set_cons_zero, List.set_cons_succ]
  have OLD := Ay
  replace Na := put4_far Na Day (.int .u64 (wd y 0 : Nat)) (.int .u64 (wd y 1 : Nat)) (.int .u64 (wd y 2 : Nat)) (.int .u64 (wd y 3 : Nat))
  replace Nb := put4_far Nb Dby (.int .u64 (wd y 0 : Nat)) (.int .u64 (wd y 1 : Nat)) (.int .u64 (wd y 2 : Nat)) (.int .u64 (wd y 3 : Nat))
  replace Nx := put4_far Nx Dxy (.int .u64 (wd y 0 : Nat)) (.int .u64 (wd y 1 : Nat)) (.int .u64 (wd y 2 : Nat)) (.int .u64 (wd y 3 : Nat))
  replace Np := put4_far Np Dpy (.int .u64 (wd y 0 : Nat)) (.int .u64 (wd y 1 : Nat)) (.int .u64 (wd y 2 : Nat)) (.int .u64 (wd y 3 : Nat))
  replace Ay := put4_at Ay (.int .u64 (wd y 0 : Nat)) (.int .u64 (wd y 1 : Nat)) (.int .u64 (wd y 2 : Nat)) (.int .u64 (wd y 3 : Nat))
  replace Aq := put4_far Aq Dyq.symm (.int .u64 (wd y 0 : Nat)) (.int .u64 (wd y 1 : Nat)) (.int .u64 (wd y 2 : Nat)) (.int .u64 (wd y 3 : Nat))
  replace NB := put4_below NB (Nat.le_trans HSZ3 Ey) (.int .u64 (wd y 0 : Nat)) (.int .u64 (wd y 1 : Nat)) (.int .u64 (wd y 2 : Nat)) (.int .u64 (wd y 3 : Nat))
  refine store_one (i := 10) _ _ _ _ _ gy _ _ _ _ _ _ _ _ (by kernel_rfl) (by rfl) (by rfl) (by rfl) OLD (trivial) ?_
  clear OLD
  generalize (put4 y3 gy (.int .u64 (wd y 0 : Nat)) (.int .u64 (wd y 1 : Nat)) (.int .u64 (wd y 2 : Nat)) (.int .u64 (wd y 3 : Nat))) = y3_10 at *
  have OLD := Aq
  replace Na := put4_far Na Daq (.int .u64 (wd q 0 : Nat)) (.int .u64 (wd q 1 : Nat)) (.int .u64 (wd q 2 : Nat)) (.int .u64 (wd q 3 : Nat))
  replace Nb := put4_far Nb Dbq (.int .u64 (wd q 0 : Nat)) (.int .u64 (wd q 1 : Nat)) (.int .u64 (wd q 2 : Nat)) (.int .u64 (wd q 3 : Nat))
  replace Nx := put4_far Nx Dxq (.int .u64 (wd q 0 : Nat)) (.int .u64 (wd q 1 : Nat)) (.int .u64 (wd q 2 : Nat)) (.int .u64 (wd q 3 : Nat))
  replace Np := put4_far Np Dpq (.int .u64 (wd q 0 : Nat)) (.int .u64 (wd q 1 : Nat)) (.int .u64 (wd q 2 : Nat)) (.int .u64 (wd q 3 : Nat))
  replace Ay := put4_far Ay Dyq (.int .u64 (wd q 0 : Nat)) (.int .u64 (wd q 1 : Nat)) (.int .u64 (wd q 2 : Nat)) (.int .u64 (wd q 3 : Nat))
  replace Aq := put4_at Aq (.int .u64 (wd q 0 : Nat)) (.int .u64 (wd q 1 : Nat)) (.int .u64 (wd q 2 : Nat)) (.int .u64 (wd q 3 : Nat))
  replace NB := put4_below NB (Nat.le_trans HSZ3 Eq) (.int .u64 (wd q 0 : Nat)) (.int .u64 (wd q 1 : Nat)) (.int .u64 (wd q 2 : Nat)) (.int .u64 (wd q 3 : Nat))
  refine store_one (i := 11) _ _ _ _ _ gq _ _ _ _ _ _ _ _ (by kernel_rfl) (by rfl) (by rfl) (by rfl) OLD (trivial) ?_
  clear OLD
  generalize (put4 y3_10 gq (.int .u64 (wd q 0 : Nat)) (.int .u64 (wd q 1 : Nat)) (.int .u64 (wd q 2 : Nat)) (.int .u64 (wd q 3 : Nat))) = y3_11 at *
  refine wpAnyH_done (by kernel_rfl) ?_ _
  refine NoPanic.normal ?_
  have Fa := Lib.hid Na
  have Fb := Lib.hid Nb
  have Fx := Lib.hid Nx
  have Fp := Lib.hid Np
  have Fy := Lib.hid Ay
  have Fq := Lib.hid Aq
  have BW := Lib.hid NB
  clear NB Na Nb Nx Np Ay Aq
  clear Ey
  clear Eq
  clear HSZ3
  go_wp2_with fail
  try simp only [List.append_eq, List.cons_append, List.nil_append]
  refine wp_region_noPanic ?_
  refine wp_region_held_drew (S := fun w' => At w' gp 24 #[.int .u64 (wd Z 0 : Nat), .int .u64 (wd Z 1 : Nat), .int .u64 (wd Z 2 : Nat), .int .u64 (wd Z 3 : Nat)] ∧ At w' gq 24 #[.int .u64 (wd q 0 : Nat), .int .u64 (wd q 1 : Nat), .int .u64 (wd q 2 : Nat), .int .u64 (wd q 3 : Nat)]) (by kernel_rfl) (⟨Fp.out.drew, Fq.out.drew⟩) (fun _ => ?_)
  refine wpAnyH_cores (fuel := 0) (⟨0, 29, [], Kind.val (.agg #[.int .u64 (wd Z 0 : Nat), .int .u64 (wd Z 1 : Nat), .int .u64 (wd Z 2 : Nat), .int .u64 (wd Z 3 : Nat)]), true⟩ :: ⟨1, 30, [0], Kind.val (.agg #[.int .u64 (wd Z 0 : Nat), .int .u64 (wd Z 1 : Nat), .int .u64 (wd Z 2 : Nat), .int .u64 (wd Z 3 : Nat)]), false⟩ :: ⟨2, 31, [0, 1], Kind.val (.bool false), true⟩ :: ⟨3, 32, [2], Kind.val (.bool false), true⟩ :: ⟨4, 33, [3], Kind.val (.agg #[.int .u64 (wd q 0 : Nat), .int .u64 (wd q 1 : Nat), .int .u64 (wd q 2 : Nat), .int .u64 (wd q 3 : Nat)]), true⟩ :: ⟨5, 34, [3, 4], Kind.val (.agg #[.int .u64 (wd Z 0 : Nat), .int .u64 (wd Z 1 : Nat), .int .u64 (wd Z 2 : Nat), .int .u64 (wd Z 3 : Nat)]), false⟩ :: ⟨6, 35, [3, 4, 5], Kind.val (.bool true), true⟩ :: ⟨7, 36, [3, 6], Kind.val (.bool true), true⟩ :: []) _ _ y3_11 _ ?_ ?_ ?_ ?_ ?_ ?_ ?_ ?_ ?_ ?_ ?_
  · rfl
  · kernel_rfl
  · exact of_decide_eq_true (by kernel_rfl)
  · exact all_cons ⟨_, by rfl, by rfl⟩ (all_cons ⟨_, by rfl, by rfl⟩ (all_cons ⟨_, by rfl, by rfl⟩ (all_cons ⟨_, by rfl, by rfl⟩ (all_cons ⟨_, by rfl, by rfl⟩ (all_cons ⟨_, by rfl, by rfl⟩ (all_cons ⟨_, by rfl, by rfl⟩ (all_cons ⟨_, by rfl, by rfl⟩ (all_nil))))))))
  · exact fun _ hb => ⟨Fp.out.on hb, Fq.out.on hb⟩
  · exact (Below.refl _ _).drew
  · kernel_rfl
  · exact fun _ _ _ _ _ h => h
  · refine all_cons ?_ (all_cons ?_ (all_cons ?_ (all_cons ?_ (all_cons ?_ (all_cons ?_ (all_cons ?_ (all_cons ?_ (all_nil))))))))
    · exact coreG_loadP _ _ _ _ _ _ gp _ _ _ _ (by rfl) (by rfl) (wants_none) (known_old 8 _ (of_decide_eq_true (by rfl)) (by rfl)) (fun _ hs => hs.1)
    · exact core_pureAs _ (by rfl)
    · exact coreG_bin _ _ _ _ _ _ _ _ _ _ _ _ _ (by rfl) (by rfl) (wants_none) (known_core 0 29 _ _ (of_decide_eq_true (by rfl)) (by rfl) (by rfl) (by rfl)) (known_core 1 30 _ _ (of_decide_eq_true (by rfl)) (by rfl) (by rfl) (by rfl)) (neq_run true _ _ _ _ _ _ _ _ _ _ _ _ _ _ _ (eqY Z))
    · exact coreG_move _ _ _ _ _ _ _ (by rfl) (by rfl) (wants_none) (known_core 2 31 _ _ (of_decide_eq_true (by rfl)) (by rfl) (by rfl) (by rfl))
    · exact coreG_loadP _ _ _ _ _ _ gq _ _ _ _ (by rfl) (by rfl) (wants_core 3 32 3 _ _ _ (by rfl) (by rfl) (by rfl) (known_core 3 32 _ _ (of_decide_eq_true (by rfl)) (by rfl) (by rfl) (by rfl)) _ (by rfl)) (known_old 10 _ (of_decide_eq_true (by rfl)) (by rfl)) (fun _ hs => hs.2)
    · exact core_pureAs _ (by rfl)
    · exact coreG_bin _ _ _ _ _ _ _ _ _ _ _ _ _ (by rfl) (by rfl) (wants_core 3 32 3 _ _ _ (by rfl) (by rfl) (by rfl) (known_core 3 32 _ _ (of_decide_eq_true (by rfl)) (by rfl) (by rfl) (by rfl)) _ (by rfl)) (known_core 4 33 _ _ (of_decide_eq_true (by rfl)) (by rfl) (by rfl) (by rfl)) (known_core 5 34 _ _ (of_decide_eq_true (by rfl)) (by rfl) (by rfl) (by rfl)) (neq_run false _ _ _ _ _ _ _ _ _ _ _ _ _ _ _ (HEQ.out))
    · exact coreG_pick _ _ _ _ _ _ _ _ _ _ _ _ (by rfl) (by rfl) (wants_none) (known_core 3 32 _ _ (of_decide_eq_true (by rfl)) (by rfl) (by rfl) (by rfl)) (known_const _) (known_core 6 35 _ _ (of_decide_eq_true (by rfl)) (by rfl) (by rfl) (by rfl)) (by rfl)
  · refine all_cons ?_ (all_cons ?_ (all_cons ?_ (all_cons ?_ (all_cons ?_ (all_cons ?_ (all_cons ?_ (all_cons ?_ (all_nil))))))))
    · exact core_stepAs _ (by rfl)
    · exact fun _ => coreG_call _ 36 _ _ [.const (.int .u64 0)] _ _ _ _ _ _ _ (by rfl) Try.func36 (by kernel_rfl) (by rfl) (by rfl) (wants_none) (.cons (known_const _) .nil) (HO.out)
    · exact core_stepAs _ (by rfl)
    · exact core_stepAs _ (by rfl)
    · exact core_stepAs _ (by rfl)
    · exact fun _ => coreG_call _ 36 _ _ [.const (.int .u64 0)] _ _ _ _ _ _ _ (by rfl) Try.func36 (by kernel_rfl) (by rfl) (by rfl) (wants_core 3 32 3 _ _ _ (by rfl) (by rfl) (by rfl) (known_core 3 32 _ _ (of_decide_eq_true (by rfl)) (by rfl) (by rfl) (by rfl)) _ (by rfl)) (.cons (known_const _) .nil) (HO.out)
    · exact core_stepAs _ (by rfl)
    · exact core_stepAs _ (by rfl)
  intro vs y4 hc
  obtain ⟨vv0, vv1, vv2, vv3, vv4, vv5, vv6, vv7, rfl⟩ := len8 vs hc.lv
  have qq0 : vv0 = .agg #[.int .u64 (wd Z 0 : Nat), .int .u64 (wd Z 1 : Nat), .int .u64 (wd Z 2 : Nat), .int .u64 (wd Z 3 : Nat)] := by obtain ⟨xx, hx, hy⟩ := hc.ok 0 _ rfl rfl; exact (Option.some.inj (show some vv0 = some xx from hx)).trans hy
  have qq1 : vv1 = .agg #[.int .u64 (wd Z 0 : Nat), .int .u64 (wd Z 1 : Nat), .int .u64 (wd Z 2 : Nat), .int .u64 (wd Z 3 : Nat)] := by obtain ⟨xx, hx, hy⟩ := hc.ok 1 _ rfl rfl; exact (Option.some.inj (show some vv1 = some xx from hx)).trans hy
  have qq2 : vv2 = .bool false := by obtain ⟨xx, hx, hy⟩ := hc.ok 2 _ rfl rfl; exact (Option.some.inj (show some vv2 = some xx from hx)).trans hy
  have qq3 : vv3 = .bool false := by obtain ⟨xx, hx, hy⟩ := hc.ok 3 _ rfl rfl; exact (Option.some.inj (show some vv3 = some xx from hx)).trans hy
  have qq4 : vv4 = .agg #[.int .u64 (wd q 0 : Nat), .int .u64 (wd q 1 : Nat), .int .u64 (wd q 2 : Nat), .int .u64 (wd q 3 : Nat)] := by obtain ⟨xx, hx, hy⟩ := hc.ok 4 _ rfl rfl; exact (Option.some.inj (show some vv4 = some xx from hx)).trans hy
  have qq5 : vv5 = .agg #[.int .u64 (wd Z 0 : Nat), .int .u64 (wd Z 1 : Nat), .int .u64 (wd Z 2 : Nat), .int .u64 (wd Z 3 : Nat)] := by obtain ⟨xx, hx, hy⟩ := hc.ok 5 _ rfl rfl; exact (Option.some.inj (show some vv5 = some xx from hx)).trans hy
  have qq6 : vv6 = .bool true := by obtain ⟨xx, hx, hy⟩ := hc.ok 6 _ rfl rfl; exact (Option.some.inj (show some vv6 = some xx from hx)).trans hy
  have qq7 : vv7 = .bool true := by obtain ⟨xx, hx, hy⟩ := hc.ok 7 _ rfl rfl; exact (Option.some.inj (show some vv7 = some xx from hx)).trans hy
  have BZ := hc.bel
  clear hc
  have Na := Fa.out.on BZ
  have Nb := Fb.out.on BZ
  have Nx := Fx.out.on BZ
  have Np := Fp.out.on BZ
  have Ny := Fy.out.on BZ
  have Nq := Fq.out.on BZ
  have NB := bel_tr BW.out BZ
  clear BW BZ Fa Fb Fx Fp Fy Fq
  subst qq0 qq1 qq2 qq3 qq4 qq5 qq6 qq7
  simp only [List.map_cons, List.map_nil, over, Act.put, List.setIfInBounds_toArray, List.set_cons_zero, List.set_cons_succ]
  refine wpAnyH_done (by kernel_rfl) ?_ _
  refine NoPanic.normal ?_
  have Fa := Lib.hid Na
  have Fb := Lib.hid Nb
  have Fx := Lib.hid Nx
  have Fp := Lib.hid Np
  have Fy := Lib.hid Ny
  have Fq := Lib.hid Nq
  have BW := Lib.hid NB
  clear NB Na Nb Nx Np Ny Nq
  go_wp2_with fail
  refine (alive3_any _).mono ?_
  rintro e v5 ⟨rfl, z5⟩
  have Na := Lib.hid (Fa.out.on z5)
  have Nb := Lib.hid (Fb.out.on z5)
  have Nx := Lib.hid (Fx.out.on z5)
  have Np := Lib.hid (Fp.out.on z5)
  have Ny := Lib.hid (Fy.out.on z5)
  have Nq := Lib.hid (Fq.out.on z5)
  have NB := Lib.hid (bel_tr BW.out z5)
  clear BW z5 Fa Fb Fx Fp Fy Fq
  have Fa := Na
  have Fb := Nb
  have Fx := Nx
  have Fp := Np
  have Fy := Ny
  have Fq := Nq
  have BW := NB
  clear NB Na Nb Nx Np Ny Nq
  go_wp2_with fail
  go_ret
  exact ⟨rfl, BW.out⟩

set_option maxRecDepth 100000 in
set_option maxHeartbeats 8000000 in
theorem times_some (A B n x y Z G z : Nat)
    (hn : n < 4294967296)
    (O : ∀ w, Calls Try.prog 36 #[.int .u64 0] w fun e w' => e = .returned (num Z) ∧ Below w.heap.size w w')
    (ON : ∀ w, Calls Try.prog 36 #[.int .u64 (n : Nat)] w fun e w' => e = .returned (num n) ∧ Below w.heap.size w w')
    (M1 : ∀ w, Calls Try.prog 15 #[num A, num n] w fun e w' => e = .returned (.tuple #[num x, num Z]) ∧ Below w.heap.size w w')
    (M2 : ∀ w, Calls Try.prog 15 #[num B, num n] w fun e w' => e = .returned (.tuple #[num y, num Z]) ∧ Below w.heap.size w w')
    (G1 : ∀ w, Calls Try.prog 34 #[num A, num B] w fun e w' => e = .returned (num G) ∧ Below w.heap.size w w')
    (M3 : ∀ w, Calls Try.prog 15 #[num G, num n] w fun e w' => e = .returned (.tuple #[num z, num Z]) ∧ Below w.heap.size w w')
    (G2 : ∀ w, Calls Try.prog 34 #[num x, num y] w fun e w' => e = .returned (num z) ∧ Below w.heap.size w w')
    (w : World) : Calls Try.prog 10 #[num A, num B, .int .u32 (n : Nat)] w fun e w' => e = .returned (.bool true) ∧ Below w.heap.size w w' := by
  have HO := Lib.hid O
  have HON := Lib.hid ON
  have HM1 := Lib.hid M1
  have HM2 := Lib.hid M2
  have HG1 := Lib.hid G1
  have HM3 := Lib.hid M3
  have HG2 := Lib.hid G2
  clear O ON M1 M2 G1 M3 G2
  go_enter Try.func10, Try.ntmps10
  go_wp2_with fail
  have BW := Lib.hid (Below.refl w.heap.size w)
  have Na : At ((w.alloc (.cells #[.int .u64 (wd A 0 : Nat), .int .u64 (wd A 1 : Nat), .int .u64 (wd A 2 : Nat), .int .u64 (wd A 3 : Nat)] 24)).alloc (.cells #[.int .u64 (wd B 0 : Nat), .int .u64 (wd B 1 : Nat), .int .u64 (wd B 2 : Nat), .int .u64 (wd B 3 : Nat)] 24)) (w.heap.size) 24 #[.int .u64 (wd A 0 : Nat), .int .u64 (wd A 1 : Nat), .int .u64 (wd A 2 : Nat), .int .u64 (wd A 3 : Nat)] := (At.at_ _ _ _ _ (by simp)).alloc _
  have Nb : At ((w.alloc (.cells #[.int .u64 (wd A 0 : Nat), .int .u64 (wd A 1 : Nat), .int .u64 (wd A 2 : Nat), .int .u64 (wd A 3 : Nat)] 24)).alloc (.cells #[.int .u64 (wd B 0 : Nat), .int .u64 (wd B 1 : Nat), .int .u64 (wd B 2 : Nat), .int .u64 (wd B 3 : Nat)] 24)) (w.heap.size + 1) 24 #[.int .u64 (wd B 0 : Nat), .int .u64 (wd B 1 : Nat), .int .u64 (wd B 2 : Nat), .int .u64 (wd B 3 : Nat)] := At.at_ _ _ _ _ (by simp)
  have NB : Below w.heap.size w ((w.alloc (.cells #[.int .u64 (wd A 0 : Nat), .int .u64 (wd A 1 : Nat), .int .u64 (wd A 2 : Nat), .int .u64 (wd A 3 : Nat)] 24)).alloc (.cells #[.int .u64 (wd B 0 : Nat), .int .u64 (wd B 1 : Nat), .int .u64 (wd B 2 : Nat), .int .u64 (wd B 3 : Nat)] 24)) := gr_alloc (gr_alloc BW.out _) _
  clear BW 
  generalize ((w.alloc (.cells #[.int .u64 (wd A 0 : Nat), .int .u64 (wd A 1 : Nat), .int .u64 (wd A 2 : Nat), .int .u64 (wd A 3 : Nat)] 24)).alloc (.cells #[.int .u64 (wd B 0 : Nat), .int .u64 (wd B 1 : Nat), .int .u64 (wd B 2 : Nat), .int .u64 (wd B 3 : Nat)] 24)) = W1 at *
  generalize w.heap.size + 1 = gb at *
  obtain ⟨ga, hg0⟩ : ∃ g, g = w.heap.size := ⟨_, rfl⟩
  rw [← hg0] at Na ⊢
  clear hg0
  have Fa := Lib.hid Na
  have Fb := Lib.hid Nb
  have BW := Lib.hid NB
  clear NB Na Nb
  try simp only [List.append_eq, List.cons_append, List.nil_append]
  refine wp_region_noPanic ?_
  refine wp_region_held_drew (S := fun w' => True) (by kernel_rfl) (trivial) (fun _ => ?_)
  refine wpAnyH_cores (fuel := 2) (⟨0, 14, [], Kind.val (.agg #[.int .u64 (wd A 0 : Nat), .int .u64 (wd A 1 : Nat), .int .u64 (wd A 2 : Nat), .int .u64 (wd A 3 : Nat)]), false⟩ :: ⟨1, 15, [], Kind.val (.int .u32 (n : Nat)), true⟩ :: ⟨2, 16, [1], Kind.val (.int .u64 (n : Nat)), true⟩ :: ⟨3, 17, [2], Kind.val (.agg #[.int .u64 (wd n 0 : Nat), .int .u64 (wd n 1 : Nat), .int .u64 (wd n 2 : Nat), .int .u64 (wd n 3 : Nat)]), false⟩ :: ⟨4, 18, [0, 3], Kind.val (.tuple #[.agg #[.int .u64 (wd x 0 : Nat), .int .u64 (wd x 1 : Nat), .int .u64 (wd x 2 : Nat), .int .u64 (wd x 3 : Nat)], .agg #[.int .u64 (wd Z 0 : Nat), .int .u64 (wd Z 1 : Nat), .int .u64 (wd Z 2 : Nat), .int .u64 (wd Z 3 : Nat)]]), false⟩ :: ⟨5, 13, [4], Kind.val (.tuple #[.agg #[.int .u64 (wd x 0 : Nat), .int .u64 (wd x 1 : Nat), .int .u64 (wd x 2 : Nat), .int .u64 (wd x 3 : Nat)], .agg #[.int .u64 (wd Z 0 : Nat), .int .u64 (wd Z 1 : Nat), .int .u64 (wd Z 2 : Nat), .int .u64 (wd Z 3 : Nat)]]), true⟩ :: ⟨6, 19, [5], Kind.val (.agg #[.int .u64 (wd x 0 : Nat), .int .u64 (wd x 1 : Nat), .int .u64 (wd x 2 : Nat), .int .u64 (wd x 3 : Nat)]), true⟩ :: ⟨7, 20, [5], Kind.val (.agg #[.int .u64 (wd Z 0 : Nat), .int .u64 (wd Z 1 : Nat), .int .u64 (wd Z 2 : Nat), .int .u64 (wd Z 3 : Nat)]), true⟩ :: ⟨8, 7, [], Kind.cell W1.heap.size 24 #[.int .u64 0, .int .u64 0, .int .u64 0, .int .u64 0], false⟩ :: ⟨9, 8, [], Kind.cell W1.heap.size 24 #[.int .u64 0, .int .u64 0, .int .u64 0, .int .u64 0], false⟩ :: []) _ _ W1 _ ?_ ?_ ?_ ?_ ?_ ?_ ?_ ?_ ?_ ?_ ?_
  · rfl
  · kernel_rfl
  · exact of_decide_eq_true rfl
  · exact all_cons ⟨_, rfl, rfl⟩ (all_cons ⟨_, rfl, rfl⟩ (all_cons ⟨_, rfl, rfl⟩ (all_cons ⟨_, rfl, rfl⟩ (all_cons ⟨_, rfl, rfl⟩ (all_cons ⟨_, rfl, rfl⟩ (all_cons ⟨_, rfl, rfl⟩ (all_cons ⟨_, rfl, rfl⟩ (all_cons ⟨_, rfl, rfl⟩ (all_cons ⟨_, rfl, rfl⟩ (all_nil))))))))))
  · exact fun _ hb => trivial
  · exact (Below.refl _ _).drew
  · kernel_rfl
  · exact fun _ _ _ _ _ h => h
  · refine all_cons ?_ (all_cons ?_ (all_cons ?_ (all_cons ?_ (all_cons ?_ (all_cons ?_ (all_cons ?_ (all_cons ?_ (all_cons ?_ (all_cons ?_ (all_nil))))))))))
    · exact core_pureAs _ (by rfl)
    · exact core_move _ _ _ _ _ _ (by rfl) (by rfl) (known_old 2 _ (of_decide_eq_true (by rfl)) (by rfl))
    · exact coreG_conv _ _ _ _ _ _ _ _ _ _ (by rfl) (by rfl) wants_none (known_core 1 15 _ _ (of_decide_eq_true (by rfl)) (by rfl) (by rfl) (by rfl)) (fun ρ w hx => by simp only [execOp, hx]; simp [go_sem]; rw [IntKind.wrap_u64]; omega)
    · exact core_pureAs _ (by rfl)
    · exact core_pureAs _ (by rfl)
    · exact core_move _ _ _ _ _ _ (by rfl) (by rfl) (known_core 4 18 _ _ (of_decide_eq_true (by rfl)) (by rfl) (by rfl) (by rfl))
    · exact core_extract _ _ 0 _ _ _ _ _ (by rfl) (by rfl) (known_core 5 13 _ _ (of_decide_eq_true (by rfl)) (by rfl) (by rfl) (by rfl)) (by rfl)
    · exact core_extract _ _ 1 _ _ _ _ _ (by rfl) (by rfl) (known_core 5 13 _ _ (of_decide_eq_true (by rfl)) (by rfl) (by rfl) (by rfl)) (by rfl)
    · exact core_pureAs _ (by rfl)
    · exact core_pureAs _ (by rfl)
  · refine all_cons ?_ (all_cons ?_ (all_cons ?_ (all_cons ?_ (all_cons ?_ (all_cons ?_ (all_cons ?_ (all_cons ?_ (all_cons ?_ (all_cons ?_ (all_nil))))))))))
    · exact fun _ => core_load _ _ _ _ _ ga _ _ _ _ (by rfl) (by rfl) (known_old 3 _ (of_decide_eq_true (by rfl)) (by rfl)) Fa.out
    · exact core_stepAs _ (by rfl)
    · exact core_stepAs _ (by rfl)
    · exact fun _ => core_call _ 36 _ _ [.tmp 16] _ _ _ _ _ _ (by rfl) Try.func36 (by kernel_rfl) (by rfl) (by rfl) (.cons (known_core 2 16 _ _ (of_decide_eq_true (by rfl)) (by rfl) (by rfl) (by rfl)) .nil) (HON.out)
    · exact fun _ => core_call _ 15 _ _ [.tmp 14, .tmp 17] _ _ _ _ _ _ (by rfl) Try.func15 (by kernel_rfl) (by rfl) (by rfl) (.cons (known_core 0 14 _ _ (of_decide_eq_true (by rfl)) (by rfl) (by rfl) (by rfl)) (.cons (known_core 3 17 _ _ (of_decide_eq_true (by rfl)) (by rfl) (by rfl) (by rfl)) .nil)) (HM1.out)
    · exact core_stepAs _ (by rfl)
    · exact core_stepAs _ (by rfl)
    · exact core_stepAs _ (by rfl)
    · exact fun _ => core_alloc _ _ _ _ _ (by rfl) (by rfl) (Nat.le_refl _)
    · exact fun _ => core_alloc _ _ _ _ _ (by rfl) (by rfl) (Nat.le_refl _)
  intro vs y2 hc
  obtain ⟨vv0, vv1, vv2, vv3, vv4, vv5, vv6, vv7, vv8, vv9, rfl⟩ := len10 vs hc.lv
  have qq0 : vv0 = .agg #[.int .u64 (wd A 0 : Nat), .int .u64 (wd A 1 : Nat), .int .u64 (wd A 2 : Nat), .int .u64 (wd A 3 : Nat)] := by obtain ⟨xx, hx, hy⟩ := hc.ok 0 _ rfl rfl; exact (Option.some.inj (show some vv0 = some xx from hx)).trans hy
  have qq1 : vv1 = .int .u32 (n : Nat) := by obtain ⟨xx, hx, hy⟩ := hc.ok 1 _ rfl rfl; exact (Option.some.inj (show some vv1 = some xx from hx)).trans hy
  have qq2 : vv2 = .int .u64 (n : Nat) := by obtain ⟨xx, hx, hy⟩ := hc.ok 2 _ rfl rfl; exact (Option.some.inj (show some vv2 = some xx from hx)).trans hy
  have qq3 : vv3 = .agg #[.int .u64 (wd n 0 : Nat), .int .u64 (wd n 1 : Nat), .int .u64 (wd n 2 : Nat), .int .u64 (wd n 3 : Nat)] := by obtain ⟨xx, hx, hy⟩ := hc.ok 3 _ rfl rfl; exact (Option.some.inj (show some vv3 = some xx from hx)).trans hy
  have qq4 : vv4 = .tuple #[.agg #[.int .u64 (wd x 0 : Nat), .int .u64 (wd x 1 : Nat), .int .u64 (wd x 2 : Nat), .int .u64 (wd x 3 : Nat)], .agg #[.int .u64 (wd Z 0 : Nat), .int .u64 (wd Z 1 : Nat), .int .u64 (wd Z 2 : Nat), .int .u64 (wd Z 3 : Nat)]] := by obtain ⟨xx, hx, hy⟩ := hc.ok 4 _ rfl rfl; exact (Option.some.inj (show some vv4 = some xx from hx)).trans hy
  have qq5 : vv5 = .tuple #[.agg #[.int .u64 (wd x 0 : Nat), .int .u64 (wd x 1 : Nat), .int .u64 (wd x 2 : Nat), .int .u64 (wd x 3 : Nat)], .agg #[.int .u64 (wd Z 0 : Nat), .int .u64 (wd Z 1 : Nat), .int .u64 (wd Z 2 : Nat), .int .u64 (wd Z 3 : Nat)]] := by obtain ⟨xx, hx, hy⟩ := hc.ok 5 _ rfl rfl; exact (Option.some.inj (show some vv5 = some xx from hx)).trans hy
  have qq6 : vv6 = .agg #[.int .u64 (wd x 0 : Nat), .int .u64 (wd x 1 : Nat), .int .u64 (wd x 2 : Nat), .int .u64 (wd x 3 : Nat)] := by obtain ⟨xx, hx, hy⟩ := hc.ok 6 _ rfl rfl; exact (Option.some.inj (show some vv6 = some xx from hx)).trans hy
  have qq7 : vv7 = .agg #[.int .u64 (wd Z 0 : Nat), .int .u64 (wd Z 1 : Nat), .int .u64 (wd Z 2 : Nat), .int .u64 (wd Z 3 : Nat)] := by obtain ⟨xx, hx, hy⟩ := hc.ok 7 _ rfl rfl; exact (Option.some.inj (show some vv7 = some xx from hx)).trans hy
  obtain ⟨xx, hx, gx, hv, Ex, Ax⟩ := hc.ok 8 _ rfl rfl
  have qq8 : vv8 = .pointer (some ⟨gx, 0, none⟩) := (Option.some.inj (show some vv8 = some xx from hx)).trans hv
  clear hx hv
  obtain ⟨xx, hx, gp, hv, Ep, Ap⟩ := hc.ok 9 _ rfl rfl
  have qq9 : vv9 = .pointer (some ⟨gp, 0, none⟩) := (Option.some.inj (show some vv9 = some xx from hx)).trans hv
  clear hx hv
  have Dxp : gx ≠ gp := fun e => hc.far 8 9 _ _ rfl rfl rfl rfl (by decide) rfl rfl (by show some vv8 = some vv9; rw [qq8, qq9, e])
  have BZ := hc.bel
  clear hc
  have Na := Fa.out.on BZ
  have Nb := Fb.out.on BZ
  have Dax : ga ≠ gx := by have := Fa.out.lt; omega
  have Dbx : gb ≠ gx := by have := Fb.out.lt; omega
  have Dap : ga ≠ gp := by have := Fa.out.lt; omega
  have Dbp : gb ≠ gp := by have := Fb.out.lt; omega
  have HSZ2 := BW.out.size
  have NB := bel_tr BW.out BZ
  clear BW BZ Fa Fb
  subst qq0 qq1 qq2 qq3 qq4 qq5 qq6 qq7 qq8 qq9
  simp only [List.map_cons, List.map_nil, over, Act.put, List.setIfInBounds_toArray, List.set_cons_zero, List.set_cons_succ]
  have OLD := Ax
  replace Na := put4_far Na Dax (.int .u64 (wd x 0 : Nat)) (.int .u64 (wd x 1 : Nat)) (.int .u64 (wd x 2 : Nat)) (.int .u64 (wd x 3 : Nat))
  replace Nb := put4_far Nb Dbx (.int .u64 (wd x 0 : Nat)) (.int .u64 (wd x 1 : Nat)) (.int .u64 (wd x 2 : Nat)) (.int .u64 (wd x 3 : Nat))
  replace Ax := put4_at Ax (.int .u64 (wd x 0 : Nat)) (.int .u64 (wd x 1 : Nat)) (.int .u64 (wd x 2 : Nat)) (.int .u64 (wd x 3 : Nat))
  replace Ap := put4_far Ap Dxp.symm (.int .u64 (wd x 0 : Nat)) (.int .u64 (wd x 1 : Nat)) (.int .u64 (wd x 2 : Nat)) (.int .u64 (wd x 3 : Nat))
  replace NB := put4_below NB (Nat.le_trans HSZ2 Ex) (.int .u64 (wd x 0 : Nat)) (.int .u64 (wd x 1 : Nat)) (.int .u64 (wd x 2 : Nat)) (.int .u64 (wd x 3 : Nat))
  refine store_one (i := 10) _ _ _ _ _ gx _ _ _ _ _ _ _ _ (by kernel_rfl) (by rfl) (by rfl) (by rfl) OLD (trivial) ?_
  clear OLD
  generalize (put4 y2 gx (.int .u64 (wd x 0 : Nat)) (.int .u64 (wd x 1 : Nat)) (.int .u64 (wd x 2 : Nat)) (.int .u64 (wd x 3 : Nat))) = y2_10 at *
  have OLD := Ap
  replace Na := put4_far Na Dap (.int .u64 (wd Z 0 : Nat)) (.int .u64 (wd Z 1 : Nat)) (.int .u64 (wd Z 2 : Nat)) (.int .u64 (wd Z 3 : Nat))
  replace Nb := put4_far Nb Dbp (.int .u64 (wd Z 0 : Nat)) (.int .u64 (wd Z 1 : Nat)) (.int .u64 (wd Z 2 : Nat)) (.int .u64 (wd Z 3 : Nat))
  replace Ax := put4_far Ax Dxp (.int .u64 (wd Z 0 : Nat)) (.int .u64 (wd Z 1 : Nat)) (.int .u64 (wd Z 2 : Nat)) (.int .u64 (wd Z 3 : Nat))
  replace Ap := put4_at Ap (.int .u64 (wd Z 0 : Nat)) (.int .u64 (wd Z 1 : Nat)) (.int .u64 (wd Z 2 : Nat)) (.int .u64 (wd Z 3 : Nat))
  replace NB := put4_below NB (Nat.le_trans HSZ2 Ep) (.int .u64 (wd Z 0 : Nat)) (.int .u64 (wd Z 1 : Nat)) (.int .u64 (wd Z 2 : Nat)) (.int .u64 (wd Z 3 : Nat))
  refine store_one (i := 11) _ _ _ _ _ gp _ _ _ _ _ _ _ _ (by kernel_rfl) (by rfl) (by rfl) (by rfl) OLD (trivial) ?_
  clear OLD
  generalize (put4 y2_10 gp (.int .u64 (wd Z 0 : Nat)) (.int .u64 (wd Z 1 : Nat)) (.int .u64 (wd Z 2 : Nat)) (.int .u64 (wd Z 3 : Nat))) = y2_11 at *
  refine wpAnyH_done (by kernel_rfl) ?_ _
  refine NoPanic.normal ?_
  have Fa := Lib.hid Na
  have Fb := Lib.hid Nb
  have Fx := Lib.hid Ax
  have Fp := Lib.hid Ap
  have BW := Lib.hid NB
  clear NB Na Nb Ax Ap
  clear Ex
  clear Ep
  clear HSZ2
  go_wp2_with fail
  try simp only [List.append_eq, List.cons_append, List.nil_append]
  refine wp_region_noPanic ?_
  refine wp_region_held_drew (S := fun w' => True) (by kernel_rfl) (trivial) (fun _ => ?_)
  refine wpAnyH_cores (fuel := 2) (⟨0, 22, [], Kind.val (.agg #[.int .u64 (wd B 0 : Nat), .int .u64 (wd B 1 : Nat), .int .u64 (wd B 2 : Nat), .int .u64 (wd B 3 : Nat)]), false⟩ :: ⟨1, 23, [], Kind.val (.int .u32 (n : Nat)), true⟩ :: ⟨2, 24, [1], Kind.val (.int .u64 (n : Nat)), true⟩ :: ⟨3, 25, [2], Kind.val (.agg #[.int .u64 (wd n 0 : Nat), .int .u64 (wd n 1 : Nat), .int .u64 (wd n 2 : Nat), .int .u64 (wd n 3 : Nat)]), false⟩ :: ⟨4, 26, [0, 3], Kind.val (.tuple #[.agg #[.int .u64 (wd y 0 : Nat), .int .u64 (wd y 1 : Nat), .int .u64 (wd y 2 : Nat), .int .u64 (wd y 3 : Nat)], .agg #[.int .u64 (wd Z 0 : Nat), .int .u64 (wd Z 1 : Nat), .int .u64 (wd Z 2 : Nat), .int .u64 (wd Z 3 : Nat)]]), false⟩ :: ⟨5, 21, [4], Kind.val (.tuple #[.agg #[.int .u64 (wd y 0 : Nat), .int .u64 (wd y 1 : Nat), .int .u64 (wd y 2 : Nat), .int .u64 (wd y 3 : Nat)], .agg #[.int .u64 (wd Z 0 : Nat), .int .u64 (wd Z 1 : Nat), .int .u64 (wd Z 2 : Nat), .int .u64 (wd Z 3 : Nat)]]), true⟩ :: ⟨6, 27, [5], Kind.val (.agg #[.int .u64 (wd y 0 : Nat), .int .u64 (wd y 1 : Nat), .int .u64 (wd y 2 : Nat), .int .u64 (wd y 3 : Nat)]), true⟩ :: ⟨7, 28, [5], Kind.val (.agg #[.int .u64 (wd Z 0 : Nat), .int .u64 (wd Z 1 : Nat), .int .u64 (wd Z 2 : Nat), .int .u64 (wd Z 3 : Nat)]), true⟩ :: ⟨8, 9, [], Kind.cell y2_11.heap.size 24 #[.int .u64 0, .int .u64 0, .int .u64 0, .int .u64 0], false⟩ :: ⟨9, 10, [], Kind.cell y2_11.heap.size 24 #[.int .u64 0, .int .u64 0, .int .u64 0, .int .u64 0], false⟩ :: []) _ _ y2_11 _ ?_ ?_ ?_ ?_ ?_ ?_ ?_ ?_ ?_ ?_ ?_
  · rfl
  · kernel_rfl
  · exact of_decide_eq_true rfl
  · exact all_cons ⟨_, rfl, rfl⟩ (all_cons ⟨_, rfl, rfl⟩ (all_cons ⟨_, rfl, rfl⟩ (all_cons ⟨_, rfl, rfl⟩ (all_cons ⟨_, rfl, rfl⟩ (all_cons ⟨_, rfl, rfl⟩ (all_cons ⟨_, rfl, rfl⟩ (all_cons ⟨_, rfl, rfl⟩ (all_cons ⟨_, rfl, rfl⟩ (all_cons ⟨_, rfl, rfl⟩ (all_nil))))))))))
  · exact fun _ hb => trivial
  · exact (Below.refl _ _).drew
  · kernel_rfl
  · exact fun _ _ _ _ _ h => h
  · refine all_cons ?_ (all_cons ?_ (all_cons ?_ (all_cons ?_ (all_cons ?_ (all_cons ?_ (all_cons ?_ (all_cons ?_ (all_cons ?_ (all_cons ?_ (all_nil))))))))))
    · exact core_pureAs _ (by rfl)
    · exact core_move _ _ _ _ _ _ (by rfl) (by rfl) (known_old 2 _ (of_decide_eq_true (by rfl)) (by rfl))
    · exact coreG_conv _ _ _ _ _ _ _ _ _ _ (by rfl) (by rfl) wants_none (known_core 1 23 _ _ (of_decide_eq_true (by rfl)) (by rfl) (by rfl) (by rfl)) (fun ρ w hx => by simp only [execOp, hx]; simp [go_sem]; rw [IntKind.wrap_u64]; omega)
    · exact core_pureAs _ (by rfl)
    · exact core_pureAs _ (by rfl)
    · exact core_move _ _ _ _ _ _ (by rfl) (by rfl) (known_core 4 26 _ _ (of_decide_eq_true (by rfl)) (by rfl) (by rfl) (by rfl))
    · exact core_extract _ _ 0 _ _ _ _ _ (by rfl) (by rfl) (known_core 5 21 _ _ (of_decide_eq_true (by rfl)) (by rfl) (by rfl) (by rfl)) (by rfl)
    · exact core_extract _ _ 1 _ _ _ _ _ (by rfl) (by rfl) (known_core 5 21 _ _ (of_decide_eq_true (by rfl)) (by rfl) (by rfl) (by rfl)) (by rfl)
    · exact core_pureAs _ (by rfl)
    · exact core_pureAs _ (by rfl)
  · refine all_cons ?_ (all_cons ?_ (all_cons ?_ (all_cons ?_ (all_cons ?_ (all_cons ?_ (all_cons ?_ (all_cons ?_ (all_cons ?_ (all_cons ?_ (all_nil))))))))))
    · exact fun _ => core_load _ _ _ _ _ gb _ _ _ _ (by rfl) (by rfl) (known_old 4 _ (of_decide_eq_true (by rfl)) (by rfl)) Fb.out
    · exact core_stepAs _ (by rfl)
    · exact core_stepAs _ (by rfl)
    · exact fun _ => core_call _ 36 _ _ [.tmp 24] _ _ _ _ _ _ (by rfl) Try.func36 (by kernel_rfl) (by rfl) (by rfl) (.cons (known_core 2 24 _ _ (of_decide_eq_true (by rfl)) (by rfl) (by rfl) (by rfl)) .nil) (HON.out)
    · exact fun _ => core_call _ 15 _ _ [.tmp 22, .tmp 25] _ _ _ _ _ _ (by rfl) Try.func15 (by kernel_rfl) (by rfl) (by rfl) (.cons (known_core 0 22 _ _ (of_decide_eq_true (by rfl)) (by rfl) (by rfl) (by rfl)) (.cons (known_core 3 25 _ _ (of_decide_eq_true (by rfl)) (by rfl) (by rfl) (by rfl)) .nil)) (HM2.out)
    · exact core_stepAs _ (by rfl)
    · exact core_stepAs _ (by rfl)
    · exact core_stepAs _ (by rfl)
    · exact fun _ => core_alloc _ _ _ _ _ (by rfl) (by rfl) (Nat.le_refl _)
    · exact fun _ => core_alloc _ _ _ _ _ (by rfl) (by rfl) (Nat.le_refl _)
  intro vs y3 hc
  obtain ⟨vv0, vv1, vv2, vv3, vv4, vv5, vv6, vv7, vv8, vv9, rfl⟩ := len10 vs hc.lv
  have qq0 : vv0 = .agg #[.int .u64 (wd B 0 : Nat), .int .u64 (wd B 1 : Nat), .int .u64 (wd B 2 : Nat), .int .u64 (wd B 3 : Nat)] := by obtain ⟨xx, hx, hy⟩ := hc.ok 0 _ rfl rfl; exact (Option.some.inj (show some vv0 = some xx from hx)).trans hy
  have qq1 : vv1 = .int .u32 (n : Nat) := by obtain ⟨xx, hx, hy⟩ := hc.ok 1 _ rfl rfl; exact (Option.some.inj (show some vv1 = some xx from hx)).trans hy
  have qq2 : vv2 = .int .u64 (n : Nat) := by obtain ⟨xx, hx, hy⟩ := hc.ok 2 _ rfl rfl; exact (Option.some.inj (show some vv2 = some xx from hx)).trans hy
  have qq3 : vv3 = .agg #[.int .u64 (wd n 0 : Nat), .int .u64 (wd n 1 : Nat), .int .u64 (wd n 2 : Nat), .int .u64 (wd n 3 : Nat)] := by obtain ⟨xx, hx, hy⟩ := hc.ok 3 _ rfl rfl; exact (Option.some.inj (show some vv3 = some xx from hx)).trans hy
  have qq4 : vv4 = .tuple #[.agg #[.int .u64 (wd y 0 : Nat), .int .u64 (wd y 1 : Nat), .int .u64 (wd y 2 : Nat), .int .u64 (wd y 3 : Nat)], .agg #[.int .u64 (wd Z 0 : Nat), .int .u64 (wd Z 1 : Nat), .int .u64 (wd Z 2 : Nat), .int .u64 (wd Z 3 : Nat)]] := by obtain ⟨xx, hx, hy⟩ := hc.ok 4 _ rfl rfl; exact (Option.some.inj (show some vv4 = some xx from hx)).trans hy
  have qq5 : vv5 = .tuple #[.agg #[.int .u64 (wd y 0 : Nat), .int .u64 (wd y 1 : Nat), .int .u64 (wd y 2 : Nat), .int .u64 (wd y 3 : Nat)], .agg #[.int .u64 (wd Z 0 : Nat), .int .u64 (wd Z 1 : Nat), .int .u64 (wd Z 2 : Nat), .int .u64 (wd Z 3 : Nat)]] := by obtain ⟨xx, hx, hy⟩ := hc.ok 5 _ rfl rfl; exact (Option.some.inj (show some vv5 = some xx from hx)).trans hy
  have qq6 : vv6 = .agg #[.int .u64 (wd y 0 : Nat), .int .u64 (wd y 1 : Nat), .int .u64 (wd y 2 : Nat), .int .u64 (wd y 3 : Nat)] := by obtain ⟨xx, hx, hy⟩ := hc.ok 6 _ rfl rfl; exact (Option.some.inj (show some vv6 = some xx from hx)).trans hy
  have qq7 : vv7 = .agg #[.int .u64 (wd Z 0 : Nat), .int .u64 (wd Z 1 : Nat), .int .u64 (wd Z 2 : Nat), .int .u64 (wd Z 3 : Nat)] := by obtain ⟨xx, hx, hy⟩ := hc.ok 7 _ rfl rfl; exact (Option.some.inj (show some vv7 = some xx from hx)).trans hy
  obtain ⟨xx, hx, gy, hv, Ey, Ay⟩ := hc.ok 8 _ rfl rfl
  have qq8 : vv8 = .pointer (some ⟨gy, 0, none⟩) := (Option.some.inj (show some vv8 = some xx from hx)).trans hv
  clear hx hv
  obtain ⟨xx, hx, gq, hv, Eq, Aq⟩ := hc.ok 9 _ rfl rfl
  have qq9 : vv9 = .pointer (some ⟨gq, 0, none⟩) := (Option.some.inj (show some vv9 = some xx from hx)).trans hv
  clear hx hv
  have Dyq : gy ≠ gq := fun e => hc.far 8 9 _ _ rfl rfl rfl rfl (by decide) rfl rfl (by show some vv8 = some vv9; rw [qq8, qq9, e])
  have BZ := hc.bel
  clear hc
  have Na := Fa.out.on BZ
  have Nb := Fb.out.on BZ
  have Nx := Fx.out.on BZ
  have Np := Fp.out.on BZ
  have Day : ga ≠ gy := by have := Fa.out.lt; omega
  have Dby : gb ≠ gy := by have := Fb.out.lt; omega
  have Dxy : gx ≠ gy := by have := Fx.out.lt; omega
  have Dpy : gp ≠ gy := by have := Fp.out.lt; omega
  have Daq : ga ≠ gq := by have := Fa.out.lt; omega
  have Dbq : gb ≠ gq := by have := Fb.out.lt; omega
  have Dxq : gx ≠ gq := by have := Fx.out.lt; omega
  have Dpq : gp ≠ gq := by have := Fp.out.lt; omega
  have HSZ3 := BW.out.size
  have NB := bel_tr BW.out BZ
  clear BW BZ Fa Fb Fx Fp
  subst qq0 qq1 qq2 qq3 qq4 qq5 qq6 qq7 qq8 qq9
  simp only [List.map_cons, List.map_nil, over, Act.put, List.setIfInBounds_toArray, List.set_cons_zero, List.set_cons_succ]
  have OLD := Ay
  replace Na := put4_far Na Day (.int .u64 (wd y 0 : Nat)) (.int .u64 (wd y 1 : Nat)) (.int .u64 (wd y 2 : Nat)) (.int .u64 (wd y 3 : Nat))
  replace Nb := put4_far Nb Dby (.int .u64 (wd y 0 : Nat)) (.int .u64 (wd y 1 : Nat)) (.int .u64 (wd y 2 : Nat)) (.int .u64 (wd y 3 : Nat))
  replace Nx := put4_far Nx Dxy (.int .u64 (wd y 0 : Nat)) (.int .u64 (wd y 1 : Nat)) (.int .u64 (wd y 2 : Nat)) (.int .u64 (wd y 3 : Nat))
  replace Np := put4_far Np Dpy (.int .u64 (wd y 0 : Nat)) (.int .u64 (wd y 1 : Nat)) (.int .u64 (wd y 2 : Nat)) (.int .u64 (wd y 3 : Nat))
  replace Ay := put4_at Ay (.int .u64 (wd y 0 : Nat)) (.int .u64 (wd y 1 : Nat)) (.int .u64 (wd y 2 : Nat)) (.int .u64 (wd y 3 : Nat))
  replace Aq := put4_far Aq Dyq.symm (.int .u64 (wd y 0 : Nat)) (.int .u64 (wd y 1 : Nat)) (.int .u64 (wd y 2 : Nat)) (.int .u64 (wd y 3 : Nat))
  replace NB := put4_below NB (Nat.le_trans HSZ3 Ey) (.int .u64 (wd y 0 : Nat)) (.int .u64 (wd y 1 : Nat)) (.int .u64 (wd y 2 : Nat)) (.int .u64 (wd y 3 : Nat))
  refine store_one (i := 10) _ _ _ _ _ gy _ _ _ _ _ _ _ _ (by kernel_rfl) (by rfl) (by rfl) (by rfl) OLD (trivial) ?_
  clear OLD
  generalize (put4 y3 gy (.int .u64 (wd y 0 : Nat)) (.int .u64 (wd y 1 : Nat)) (.int .u64 (wd y 2 : Nat)) (.int .u64 (wd y 3 : Nat))) = y3_10 at *
  have OLD := Aq
  replace Na := put4_far Na Daq (.int .u64 (wd Z 0 : Nat)) (.int .u64 (wd Z 1 : Nat)) (.int .u64 (wd Z 2 : Nat)) (.int .u64 (wd Z 3 : Nat))
  replace Nb := put4_far Nb Dbq (.int .u64 (wd Z 0 : Nat)) (.int .u64 (wd Z 1 : Nat)) (.int .u64 (wd Z 2 : Nat)) (.int .u64 (wd Z 3 : Nat))
  replace Nx := put4_far Nx Dxq (.int .u64 (wd Z 0 : Nat)) (.int .u64 (wd Z 1 : Nat)) (.int .u64 (wd Z 2 : Nat)) (.int .u64 (wd Z 3 : Nat))
  replace Np := put4_far Np Dpq (.int .u64 (wd Z 0 : Nat)) (.int .u64 (wd Z 1 : Nat)) (.int .u64 (wd Z 2 : Nat)) (.int .u64 (wd Z 3 : Nat))
  replace Ay := put4_far Ay Dyq (.int .u64 (wd Z 0 : Nat)) (.int .u64 (wd Z 1 : Nat)) (.int .u64 (wd Z 2 : Nat)) (.int .u64 (wd Z 3 : Nat))
  replace Aq := put4_at Aq (.int .u64 (wd Z 0 : Nat)) (.int .u64 (wd Z 1 : Nat)) (.int .u64 (wd Z 2 : Nat)) (.int .u64 (wd Z 3 : Nat))
  replace NB := put4_below NB (Nat.le_trans HSZ3 Eq) (.int .u64 (wd Z 0 : Nat)) (.int .u64 (wd Z 1 : Nat)) (.int .u64 (wd Z 2 : Nat)) (.int .u64 (wd Z 3 : Nat))
  refine store_one (i := 11) _ _ _ _ _ gq _ _ _ _ _ _ _ _ (by kernel_rfl) (by rfl) (by rfl) (by rfl) OLD (trivial) ?_
  clear OLD
  generalize (put4 y3_10 gq (.int .u64 (wd Z 0 : Nat)) (.int .u64 (wd Z 1 : Nat)) (.int .u64 (wd Z 2 : Nat)) (.int .u64 (wd Z 3 : Nat))) = y3_11 at *
  refine wpAnyH_done (by kernel_rfl) ?_ _
  refine NoPanic.normal ?_
  have Fa := Lib.hid Na
  have Fb := Lib.hid Nb
  have Fx := Lib.hid Nx
  have Fp := Lib.hid Np
  have Fy := Lib.hid Ay
  have Fq := Lib.hid Aq
  have BW := Lib.hid NB
  clear NB Na Nb Nx Np Ay Aq
  clear Ey
  clear Eq
  clear HSZ3
  go_wp2_with fail
  try simp only [List.append_eq, List.cons_append, List.nil_append]
  refine wp_region_noPanic ?_
  refine wp_region_held_drew (S := fun w' => At w' gp 24 #[.int .u64 (wd Z 0 : Nat), .int .u64 (wd Z 1 : Nat), .int .u64 (wd Z 2 : Nat), .int .u64 (wd Z 3 : Nat)] ∧ At w' gq 24 #[.int .u64 (wd Z 0 : Nat), .int .u64 (wd Z 1 : Nat), .int .u64 (wd Z 2 : Nat), .int .u64 (wd Z 3 : Nat)]) (by kernel_rfl) (⟨Fp.out.drew, Fq.out.drew⟩) (fun _ => ?_)
  refine wpAnyH_cores (fuel := 0) (⟨0, 29, [], Kind.val (.agg #[.int .u64 (wd Z 0 : Nat), .int .u64 (wd Z 1 : Nat), .int .u64 (wd Z 2 : Nat), .int .u64 (wd Z 3 : Nat)]), true⟩ :: ⟨1, 30, [0], Kind.val (.agg #[.int .u64 (wd Z 0 : Nat), .int .u64 (wd Z 1 : Nat), .int .u64 (wd Z 2 : Nat), .int .u64 (wd Z 3 : Nat)]), false⟩ :: ⟨2, 31, [0, 1], Kind.val (.bool false), true⟩ :: ⟨3, 32, [2], Kind.val (.bool false), true⟩ :: ⟨4, 33, [3], Kind.val (.agg #[.int .u64 (wd Z 0 : Nat), .int .u64 (wd Z 1 : Nat), .int .u64 (wd Z 2 : Nat), .int .u64 (wd Z 3 : Nat)]), true⟩ :: ⟨5, 34, [3, 4], Kind.val (.agg #[.int .u64 (wd Z 0 : Nat), .int .u64 (wd Z 1 : Nat), .int .u64 (wd Z 2 : Nat), .int .u64 (wd Z 3 : Nat)]), false⟩ :: ⟨6, 35, [3, 4, 5], Kind.val (.bool false), true⟩ :: ⟨7, 36, [3, 6], Kind.val (.bool false), true⟩ :: []) _ _ y3_11 _ ?_ ?_ ?_ ?_ ?_ ?_ ?_ ?_ ?_ ?_ ?_
  · rfl
  · kernel_rfl
  · exact of_decide_eq_true (by kernel_rfl)
  · exact all_cons ⟨_, by rfl, by rfl⟩ (all_cons ⟨_, by rfl, by rfl⟩ (all_cons ⟨_, by rfl, by rfl⟩ (all_cons ⟨_, by rfl, by rfl⟩ (all_cons ⟨_, by rfl, by rfl⟩ (all_cons ⟨_, by rfl, by rfl⟩ (all_cons ⟨_, by rfl, by rfl⟩ (all_cons ⟨_, by rfl, by rfl⟩ (all_nil))))))))
  · exact fun _ hb => ⟨Fp.out.on hb, Fq.out.on hb⟩
  · exact (Below.refl _ _).drew
  · kernel_rfl
  · exact fun _ _ _ _ _ h => h
  · refine all_cons ?_ (all_cons ?_ (all_cons ?_ (all_cons ?_ (all_cons ?_ (all_cons ?_ (all_cons ?_ (all_cons ?_ (all_nil))))))))
    · exact coreG_loadP _ _ _ _ _ _ gp _ _ _ _ (by rfl) (by rfl) (wants_none) (known_old 8 _ (of_decide_eq_true (by rfl)) (by rfl)) (fun _ hs => hs.1)
    · exact core_pureAs _ (by rfl)
    · exact coreG_bin _ _ _ _ _ _ _ _ _ _ _ _ _ (by rfl) (by rfl) (wants_none) (known_core 0 29 _ _ (of_decide_eq_true (by rfl)) (by rfl) (by rfl) (by rfl)) (known_core 1 30 _ _ (of_decide_eq_true (by rfl)) (by rfl) (by rfl) (by rfl)) (neq_run true _ _ _ _ _ _ _ _ _ _ _ _ _ _ _ (eqY Z))
    · exact coreG_move _ _ _ _ _ _ _ (by rfl) (by rfl) (wants_none) (known_core 2 31 _ _ (of_decide_eq_true (by rfl)) (by rfl) (by rfl) (by rfl))
    · exact coreG_loadP _ _ _ _ _ _ gq _ _ _ _ (by rfl) (by rfl) (wants_core 3 32 3 _ _ _ (by rfl) (by rfl) (by rfl) (known_core 3 32 _ _ (of_decide_eq_true (by rfl)) (by rfl) (by rfl) (by rfl)) _ (by rfl)) (known_old 10 _ (of_decide_eq_true (by rfl)) (by rfl)) (fun _ hs => hs.2)
    · exact core_pureAs _ (by rfl)
    · exact coreG_bin _ _ _ _ _ _ _ _ _ _ _ _ _ (by rfl) (by rfl) (wants_core 3 32 3 _ _ _ (by rfl) (by rfl) (by rfl) (known_core 3 32 _ _ (of_decide_eq_true (by rfl)) (by rfl) (by rfl) (by rfl)) _ (by rfl)) (known_core 4 33 _ _ (of_decide_eq_true (by rfl)) (by rfl) (by rfl) (by rfl)) (known_core 5 34 _ _ (of_decide_eq_true (by rfl)) (by rfl) (by rfl) (by rfl)) (neq_run true _ _ _ _ _ _ _ _ _ _ _ _ _ _ _ (eqY Z))
    · exact coreG_pick _ _ _ _ _ _ _ _ _ _ _ _ (by rfl) (by rfl) (wants_none) (known_core 3 32 _ _ (of_decide_eq_true (by rfl)) (by rfl) (by rfl) (by rfl)) (known_const _) (known_core 6 35 _ _ (of_decide_eq_true (by rfl)) (by rfl) (by rfl) (by rfl)) (by rfl)
  · refine all_cons ?_ (all_cons ?_ (all_cons ?_ (all_cons ?_ (all_cons ?_ (all_cons ?_ (all_cons ?_ (all_cons ?_ (all_nil))))))))
    · exact core_stepAs _ (by rfl)
    · exact fun _ => coreG_call _ 36 _ _ [.const (.int .u64 0)] _ _ _ _ _ _ _ (by rfl) Try.func36 (by kernel_rfl) (by rfl) (by rfl) (wants_none) (.cons (known_const _) .nil) (HO.out)
    · exact core_stepAs _ (by rfl)
    · exact core_stepAs _ (by rfl)
    · exact core_stepAs _ (by rfl)
    · exact fun _ => coreG_call _ 36 _ _ [.const (.int .u64 0)] _ _ _ _ _ _ _ (by rfl) Try.func36 (by kernel_rfl) (by rfl) (by rfl) (wants_core 3 32 3 _ _ _ (by rfl) (by rfl) (by rfl) (known_core 3 32 _ _ (of_decide_eq_true (by rfl)) (by rfl) (by rfl) (by rfl)) _ (by rfl)) (.cons (known_const _) .nil) (HO.out)
    · exact core_stepAs _ (by rfl)
    · exact core_stepAs _ (by rfl)
  intro vs y4 hc
  obtain ⟨vv0, vv1, vv2, vv3, vv4, vv5, vv6, vv7, rfl⟩ := len8 vs hc.lv
  have qq0 : vv0 = .agg #[.int .u64 (wd Z 0 : Nat), .int .u64 (wd Z 1 : Nat), .int .u64 (wd Z 2 : Nat), .int .u64 (wd Z 3 : Nat)] := by obtain ⟨xx, hx, hy⟩ := hc.ok 0 _ rfl rfl; exact (Option.some.inj (show some vv0 = some xx from hx)).trans hy
  have qq1 : vv1 = .agg #[.int .u64 (wd Z 0 : Nat), .int .u64 (wd Z 1 : Nat), .int .u64 (wd Z 2 : Nat), .int .u64 (wd Z 3 : Nat)] := by obtain ⟨xx, hx, hy⟩ := hc.ok 1 _ rfl rfl; exact (Option.some.inj (show some vv1 = some xx from hx)).trans hy
  have qq2 : vv2 = .bool false := by obtain ⟨xx, hx, hy⟩ := hc.ok 2 _ rfl rfl; exact (Option.some.inj (show some vv2 = some xx from hx)).trans hy
  have qq3 : vv3 = .bool false := by obtain ⟨xx, hx, hy⟩ := hc.ok 3 _ rfl rfl; exact (Option.some.inj (show some vv3 = some xx from hx)).trans hy
  have qq4 : vv4 = .agg #[.int .u64 (wd Z 0 : Nat), .int .u64 (wd Z 1 : Nat), .int .u64 (wd Z 2 : Nat), .int .u64 (wd Z 3 : Nat)] := by obtain ⟨xx, hx, hy⟩ := hc.ok 4 _ rfl rfl; exact (Option.some.inj (show some vv4 = some xx from hx)).trans hy
  have qq5 : vv5 = .agg #[.int .u64 (wd Z 0 : Nat), .int .u64 (wd Z 1 : Nat), .int .u64 (wd Z 2 : Nat), .int .u64 (wd Z 3 : Nat)] := by obtain ⟨xx, hx, hy⟩ := hc.ok 5 _ rfl rfl; exact (Option.some.inj (show some vv5 = some xx from hx)).trans hy
  have qq6 : vv6 = .bool false := by obtain ⟨xx, hx, hy⟩ := hc.ok 6 _ rfl rfl; exact (Option.some.inj (show some vv6 = some xx from hx)).trans hy
  have qq7 : vv7 = .bool false := by obtain ⟨xx, hx, hy⟩ := hc.ok 7 _ rfl rfl; exact (Option.some.inj (show some vv7 = some xx from hx)).trans hy
  have BZ := hc.bel
  clear hc
  have Na := Fa.out.on BZ
  have Nb := Fb.out.on BZ
  have Nx := Fx.out.on BZ
  have Np := Fp.out.on BZ
  have Ny := Fy.out.on BZ
  have Nq := Fq.out.on BZ
  have NB := bel_tr BW.out BZ
  clear BW BZ Fa Fb Fx Fp Fy Fq
  subst qq0 qq1 qq2 qq3 qq4 qq5 qq6 qq7
  simp only [List.map_cons, List.map_nil, over, Act.put, List.setIfInBounds_toArray, List.set_cons_zero, List.set_cons_succ]
  refine wpAnyH_done (by kernel_rfl) ?_ _
  refine NoPanic.normal ?_
  have Fa := Lib.hid Na
  have Fb := Lib.hid Nb
  have Fx := Lib.hid Nx
  have Fp := Lib.hid Np
  have Fy := Lib.hid Ny
  have Fq := Lib.hid Nq
  have BW := Lib.hid NB
  clear NB Na Nb Nx Np Ny Nq
  clear Fp
  clear Fq
  have La := Fa.out.lt
  have ca0 : y4.cell? ⟨ga, 0, none⟩ = some (.int .u64 (wd A 0 : Nat)) := Fa.out.cell 0
  have ca1 : y4.cell? ⟨ga, 1, none⟩ = some (.int .u64 (wd A 1 : Nat)) := Fa.out.cell 1
  have ca2 : y4.cell? ⟨ga, 2, none⟩ = some (.int .u64 (wd A 2 : Nat)) := Fa.out.cell 2
  have ca3 : y4.cell? ⟨ga, 3, none⟩ = some (.int .u64 (wd A 3 : Nat)) := Fa.out.cell 3
  have Lb := Fb.out.lt
  have cb0 : y4.cell? ⟨gb, 0, none⟩ = some (.int .u64 (wd B 0 : Nat)) := Fb.out.cell 0
  have cb1 : y4.cell? ⟨gb, 1, none⟩ = some (.int .u64 (wd B 1 : Nat)) := Fb.out.cell 1
  have cb2 : y4.cell? ⟨gb, 2, none⟩ = some (.int .u64 (wd B 2 : Nat)) := Fb.out.cell 2
  have cb3 : y4.cell? ⟨gb, 3, none⟩ = some (.int .u64 (wd B 3 : Nat)) := Fb.out.cell 3
  go_wp2_with fail
  clear La ca0 ca1 ca2 ca3 Lb cb0 cb1 cb2 cb3
  refine (HG1.out _).mono ?_
  rintro e v5 ⟨rfl, z5⟩
  have Na := Lib.hid (Fa.out.on z5)
  have Nb := Lib.hid (Fb.out.on z5)
  have Nx := Lib.hid (Fx.out.on z5)
  have Ny := Lib.hid (Fy.out.on z5)
  have NB := Lib.hid (bel_tr BW.out z5)
  clear BW z5 Fa Fb Fx Fy
  have Fa := Na
  have Fb := Nb
  have Fx := Nx
  have Fy := Ny
  have BW := NB
  clear NB Na Nb Nx Ny
  go_wp2_with fail
  refine (HON.out _).mono ?_
  rintro e v6 ⟨rfl, z6⟩
  have Na := Lib.hid (Fa.out.on z6)
  have Nb := Lib.hid (Fb.out.on z6)
  have Nx := Lib.hid (Fx.out.on z6)
  have Ny := Lib.hid (Fy.out.on z6)
  have NB := Lib.hid (bel_tr BW.out z6)
  clear BW z6 Fa Fb Fx Fy
  have Fa := Na
  have Fb := Nb
  have Fx := Nx
  have Fy := Ny
  have BW := NB
  clear NB Na Nb Nx Ny
  go_wp2_with fail
  refine (HM3.out _).mono ?_
  rintro e v7 ⟨rfl, z7⟩
  have Na := Lib.hid (Fa.out.on z7)
  have Nb := Lib.hid (Fb.out.on z7)
  have Nx := Lib.hid (Fx.out.on z7)
  have Ny := Lib.hid (Fy.out.on z7)
  have NB := Lib.hid (bel_tr BW.out z7)
  clear BW z7 Fa Fb Fx Fy
  have Fa := Na
  have Fb := Nb
  have Fx := Nx
  have Fy := Ny
  have BW := NB
  clear NB Na Nb Nx Ny
  go_wp2_with fail
  have Nzz : At ((v7.alloc (.cells #[.int .u64 (wd z 0 : Nat), .int .u64 (wd z 1 : Nat), .int .u64 (wd z 2 : Nat), .int .u64 (wd z 3 : Nat)] 24)).alloc (.cells #[.int .u64 (wd Z 0 : Nat), .int .u64 (wd Z 1 : Nat), .int .u64 (wd Z 2 : Nat), .int .u64 (wd Z 3 : Nat)] 24)) (v7.heap.size) 24 #[.int .u64 (wd z 0 : Nat), .int .u64 (wd z 1 : Nat), .int .u64 (wd z 2 : Nat), .int .u64 (wd z 3 : Nat)] := (At.at_ _ _ _ _ (by simp)).alloc _
  have Nr : At ((v7.alloc (.cells #[.int .u64 (wd z 0 : Nat), .int .u64 (wd z 1 : Nat), .int .u64 (wd z 2 : Nat), .int .u64 (wd z 3 : Nat)] 24)).alloc (.cells #[.int .u64 (wd Z 0 : Nat), .int .u64 (wd Z 1 : Nat), .int .u64 (wd Z 2 : Nat), .int .u64 (wd Z 3 : Nat)] 24)) (v7.heap.size + 1) 24 #[.int .u64 (wd Z 0 : Nat), .int .u64 (wd Z 1 : Nat), .int .u64 (wd Z 2 : Nat), .int .u64 (wd Z 3 : Nat)] := At.at_ _ _ _ _ (by simp)
  have Na : At ((v7.alloc (.cells #[.int .u64 (wd z 0 : Nat), .int .u64 (wd z 1 : Nat), .int .u64 (wd z 2 : Nat), .int .u64 (wd z 3 : Nat)] 24)).alloc (.cells #[.int .u64 (wd Z 0 : Nat), .int .u64 (wd Z 1 : Nat), .int .u64 (wd Z 2 : Nat), .int .u64 (wd Z 3 : Nat)] 24)) ga 24 #[.int .u64 (wd A 0 : Nat), .int .u64 (wd A 1 : Nat), .int .u64 (wd A 2 : Nat), .int .u64 (wd A 3 : Nat)] := (Fa.out.alloc _).alloc _
  have Nb : At ((v7.alloc (.cells #[.int .u64 (wd z 0 : Nat), .int .u64 (wd z 1 : Nat), .int .u64 (wd z 2 : Nat), .int .u64 (wd z 3 : Nat)] 24)).alloc (.cells #[.int .u64 (wd Z 0 : Nat), .int .u64 (wd Z 1 : Nat), .int .u64 (wd Z 2 : Nat), .int .u64 (wd Z 3 : Nat)] 24)) gb 24 #[.int .u64 (wd B 0 : Nat), .int .u64 (wd B 1 : Nat), .int .u64 (wd B 2 : Nat), .int .u64 (wd B 3 : Nat)] := (Fb.out.alloc _).alloc _
  have Nx : At ((v7.alloc (.cells #[.int .u64 (wd z 0 : Nat), .int .u64 (wd z 1 : Nat), .int .u64 (wd z 2 : Nat), .int .u64 (wd z 3 : Nat)] 24)).alloc (.cells #[.int .u64 (wd Z 0 : Nat), .int .u64 (wd Z 1 : Nat), .int .u64 (wd Z 2 : Nat), .int .u64 (wd Z 3 : Nat)] 24)) gx 24 #[.int .u64 (wd x 0 : Nat), .int .u64 (wd x 1 : Nat), .int .u64 (wd x 2 : Nat), .int .u64 (wd x 3 : Nat)] := (Fx.out.alloc _).alloc _
  have Ny : At ((v7.alloc (.cells #[.int .u64 (wd z 0 : Nat), .int .u64 (wd z 1 : Nat), .int .u64 (wd z 2 : Nat), .int .u64 (wd z 3 : Nat)] 24)).alloc (.cells #[.int .u64 (wd Z 0 : Nat), .int .u64 (wd Z 1 : Nat), .int .u64 (wd Z 2 : Nat), .int .u64 (wd Z 3 : Nat)] 24)) gy 24 #[.int .u64 (wd y 0 : Nat), .int .u64 (wd y 1 : Nat), .int .u64 (wd y 2 : Nat), .int .u64 (wd y 3 : Nat)] := (Fy.out.alloc _).alloc _
  have NB : Below w.heap.size w ((v7.alloc (.cells #[.int .u64 (wd z 0 : Nat), .int .u64 (wd z 1 : Nat), .int .u64 (wd z 2 : Nat), .int .u64 (wd z 3 : Nat)] 24)).alloc (.cells #[.int .u64 (wd Z 0 : Nat), .int .u64 (wd Z 1 : Nat), .int .u64 (wd Z 2 : Nat), .int .u64 (wd Z 3 : Nat)] 24)) := gr_alloc (gr_alloc BW.out _) _
  clear BW Fa Fb Fx Fy
  generalize ((v7.alloc (.cells #[.int .u64 (wd z 0 : Nat), .int .u64 (wd z 1 : Nat), .int .u64 (wd z 2 : Nat), .int .u64 (wd z 3 : Nat)] 24)).alloc (.cells #[.int .u64 (wd Z 0 : Nat), .int .u64 (wd Z 1 : Nat), .int .u64 (wd Z 2 : Nat), .int .u64 (wd Z 3 : Nat)] 24)) = W8 at *
  generalize v7.heap.size + 1 = gr at *
  generalize v7.heap.size = gzz at *
  have Fa := Lib.hid Na
  have Fb := Lib.hid Nb
  have Fx := Lib.hid Nx
  have Fy := Lib.hid Ny
  have Fzz := Lib.hid Nzz
  have Fr := Lib.hid Nr
  have BW := Lib.hid NB
  clear NB Na Nb Nx Ny Nzz Nr
  try simp only [List.append_eq, List.cons_append, List.nil_append]
  refine wp_region_noPanic ?_
  refine wp_region_held_drew (S := fun w' => At w' gr 24 #[.int .u64 (wd Z 0 : Nat), .int .u64 (wd Z 1 : Nat), .int .u64 (wd Z 2 : Nat), .int .u64 (wd Z 3 : Nat)] ∧ At w' gx 24 #[.int .u64 (wd x 0 : Nat), .int .u64 (wd x 1 : Nat), .int .u64 (wd x 2 : Nat), .int .u64 (wd x 3 : Nat)] ∧ At w' gy 24 #[.int .u64 (wd y 0 : Nat), .int .u64 (wd y 1 : Nat), .int .u64 (wd y 2 : Nat), .int .u64 (wd y 3 : Nat)] ∧ At w' gzz 24 #[.int .u64 (wd z 0 : Nat), .int .u64 (wd z 1 : Nat), .int .u64 (wd z 2 : Nat), .int .u64 (wd z 3 : Nat)]) (by kernel_rfl) (⟨Fr.out.drew, Fx.out.drew, Fy.out.drew, Fzz.out.drew⟩) (fun _ => ?_)
  refine wpAnyH_cores (fuel := 1) (⟨0, 48, [], Kind.val (.bool true), false⟩ :: ⟨1, 49, [0], Kind.val (.bool true), true⟩ :: ⟨2, 50, [1], Kind.val (.agg #[.int .u64 (wd Z 0 : Nat), .int .u64 (wd Z 1 : Nat), .int .u64 (wd Z 2 : Nat), .int .u64 (wd Z 3 : Nat)]), true⟩ :: ⟨3, 51, [1, 2], Kind.val (.agg #[.int .u64 (wd Z 0 : Nat), .int .u64 (wd Z 1 : Nat), .int .u64 (wd Z 2 : Nat), .int .u64 (wd Z 3 : Nat)]), false⟩ :: ⟨4, 52, [1, 2, 3], Kind.val (.bool true), true⟩ :: ⟨5, 53, [1, 4], Kind.val (.bool true), true⟩ :: ⟨6, 54, [5], Kind.val (.bool true), true⟩ :: ⟨7, 55, [6], Kind.val (.agg #[.int .u64 (wd x 0 : Nat), .int .u64 (wd x 1 : Nat), .int .u64 (wd x 2 : Nat), .int .u64 (wd x 3 : Nat)]), true⟩ :: ⟨8, 56, [6, 7], Kind.val (.agg #[.int .u64 (wd y 0 : Nat), .int .u64 (wd y 1 : Nat), .int .u64 (wd y 2 : Nat), .int .u64 (wd y 3 : Nat)]), true⟩ :: ⟨10, 58, [6, 8], Kind.val (.agg #[.int .u64 (wd z 0 : Nat), .int .u64 (wd z 1 : Nat), .int .u64 (wd z 2 : Nat), .int .u64 (wd z 3 : Nat)]), true⟩ :: ⟨9, 57, [6, 7, 8, 9], Kind.val (.agg #[.int .u64 (wd z 0 : Nat), .int .u64 (wd z 1 : Nat), .int .u64 (wd z 2 : Nat), .int .u64 (wd z 3 : Nat)]), false⟩ :: ⟨11, 59, [6, 9, 10], Kind.val (.bool true), true⟩ :: ⟨12, 60, [6, 11], Kind.val (.bool true), true⟩ :: []) _ _ W8 _ ?_ ?_ ?_ ?_ ?_ ?_ ?_ ?_ ?_ ?_ ?_
  · rfl
  · kernel_rfl
  · exact of_decide_eq_true (by kernel_rfl)
  · exact all_cons ⟨_, by rfl, by rfl⟩ (all_cons ⟨_, by rfl, by rfl⟩ (all_cons ⟨_, by rfl, by rfl⟩ (all_cons ⟨_, by rfl, by rfl⟩ (all_cons ⟨_, by rfl, by rfl⟩ (all_cons ⟨_, by rfl, by rfl⟩ (all_cons ⟨_, by rfl, by rfl⟩ (all_cons ⟨_, by rfl, by rfl⟩ (all_cons ⟨_, by rfl, by rfl⟩ (all_cons ⟨_, by rfl, by rfl⟩ (all_cons ⟨_, by rfl, by rfl⟩ (all_cons ⟨_, by rfl, by rfl⟩ (all_cons ⟨_, by rfl, by rfl⟩ (all_nil)))))))))))))
  · exact fun _ hb => ⟨Fr.out.on hb, Fx.out.on hb, Fy.out.on hb, Fzz.out.on hb⟩
  · exact (Below.refl _ _).drew
  · kernel_rfl
  · exact fun _ _ _ _ _ h => h
  · refine all_cons ?_ (all_cons ?_ (all_cons ?_ (all_cons ?_ (all_cons ?_ (all_cons ?_ (all_cons ?_ (all_cons ?_ (all_cons ?_ (all_cons ?_ (all_cons ?_ (all_cons ?_ (all_cons ?_ (all_nil)))))))))))))
    · exact core_pureAs _ (by rfl)
    · exact coreG_move _ _ _ _ _ _ _ (by rfl) (by rfl) (wants_none) (known_core 0 48 _ _ (of_decide_eq_true (by rfl)) (by rfl) (by rfl) (by rfl))
    · exact coreG_loadP _ _ _ _ _ _ gr _ _ _ _ (by rfl) (by rfl) (wants_core 1 49 1 _ _ _ (by rfl) (by rfl) (by rfl) (known_core 1 49 _ _ (of_decide_eq_true (by rfl)) (by rfl) (by rfl) (by rfl)) _ (by rfl)) (known_old 12 _ (of_decide_eq_true (by rfl)) (by rfl)) (fun _ hs => hs.1)
    · exact core_pureAs _ (by rfl)
    · exact coreG_bin _ _ _ _ _ _ _ _ _ _ _ _ _ (by rfl) (by rfl) (wants_core 1 49 1 _ _ _ (by rfl) (by rfl) (by rfl) (known_core 1 49 _ _ (of_decide_eq_true (by rfl)) (by rfl) (by rfl) (by rfl)) _ (by rfl)) (known_core 2 50 _ _ (of_decide_eq_true (by rfl)) (by rfl) (by rfl) (by rfl)) (known_core 3 51 _ _ (of_decide_eq_true (by rfl)) (by rfl) (by rfl) (by rfl)) (eql_run true _ _ _ _ _ _ _ _ _ _ _ _ _ _ _ (eqY Z))
    · exact coreG_pick _ _ _ _ _ _ _ _ _ _ _ _ (by rfl) (by rfl) (wants_none) (known_core 1 49 _ _ (of_decide_eq_true (by rfl)) (by rfl) (by rfl) (by rfl)) (known_core 4 52 _ _ (of_decide_eq_true (by rfl)) (by rfl) (by rfl) (by rfl)) (known_const _) (by rfl)
    · exact coreG_move _ _ _ _ _ _ _ (by rfl) (by rfl) (wants_none) (known_core 5 53 _ _ (of_decide_eq_true (by rfl)) (by rfl) (by rfl) (by rfl))
    · exact coreG_loadP _ _ _ _ _ _ gx _ _ _ _ (by rfl) (by rfl) (wants_core 6 54 6 _ _ _ (by rfl) (by rfl) (by rfl) (known_core 6 54 _ _ (of_decide_eq_true (by rfl)) (by rfl) (by rfl) (by rfl)) _ (by rfl)) (known_old 7 _ (of_decide_eq_true (by rfl)) (by rfl)) (fun _ hs => hs.2.1)
    · exact coreG_loadP _ _ _ _ _ _ gy _ _ _ _ (by rfl) (by rfl) (wants_core 6 54 6 _ _ _ (by rfl) (by rfl) (by rfl) (known_core 6 54 _ _ (of_decide_eq_true (by rfl)) (by rfl) (by rfl) (by rfl)) _ (by rfl)) (known_old 9 _ (of_decide_eq_true (by rfl)) (by rfl)) (fun _ hs => hs.2.2.1)
    · exact coreG_loadP _ _ _ _ _ _ gzz _ _ _ _ (by rfl) (by rfl) (wants_core 6 54 6 _ _ _ (by rfl) (by rfl) (by rfl) (known_core 6 54 _ _ (of_decide_eq_true (by rfl)) (by rfl) (by rfl) (by rfl)) _ (by rfl)) (known_old 11 _ (of_decide_eq_true (by rfl)) (by rfl)) (fun _ hs => hs.2.2.2)
    · exact core_pureAs _ (by rfl)
    · exact coreG_bin _ _ _ _ _ _ _ _ _ _ _ _ _ (by rfl) (by rfl) (wants_core 6 54 6 _ _ _ (by rfl) (by rfl) (by rfl) (known_core 6 54 _ _ (of_decide_eq_true (by rfl)) (by rfl) (by rfl) (by rfl)) _ (by rfl)) (known_core 10 57 _ _ (of_decide_eq_true (by rfl)) (by rfl) (by rfl) (by rfl)) (known_core 9 58 _ _ (of_decide_eq_true (by rfl)) (by rfl) (by rfl) (by rfl)) (eql_run true _ _ _ _ _ _ _ _ _ _ _ _ _ _ _ (eqY z))
    · exact coreG_pick _ _ _ _ _ _ _ _ _ _ _ _ (by rfl) (by rfl) (wants_none) (known_core 6 54 _ _ (of_decide_eq_true (by rfl)) (by rfl) (by rfl) (by rfl)) (known_core 11 59 _ _ (of_decide_eq_true (by rfl)) (by rfl) (by rfl) (by rfl)) (known_const _) (by rfl)
  · refine all_cons ?_ (all_cons ?_ (all_cons ?_ (all_cons ?_ (all_cons ?_ (all_cons ?_ (all_cons ?_ (all_cons ?_ (all_cons ?_ (all_cons ?_ (all_cons ?_ (all_cons ?_ (all_cons ?_ (all_nil)))))))))))))
    · exact fun _ => coreG_call _ 37 _ _ [] _ _ _ _ _ _ _ (by rfl) Try.func37 (by kernel_rfl) (by rfl) (by rfl) (wants_none) .nil (alive3_any)
    · exact core_stepAs _ (by rfl)
    · exact core_stepAs _ (by rfl)
    · exact fun _ => coreG_call _ 36 _ _ [.const (.int .u64 0)] _ _ _ _ _ _ _ (by rfl) Try.func36 (by kernel_rfl) (by rfl) (by rfl) (wants_core 1 49 1 _ _ _ (by rfl) (by rfl) (by rfl) (known_core 1 49 _ _ (of_decide_eq_true (by rfl)) (by rfl) (by rfl) (by rfl)) _ (by rfl)) (.cons (known_const _) .nil) (HO.out)
    · exact core_stepAs _ (by rfl)
    · exact core_stepAs _ (by rfl)
    · exact core_stepAs _ (by rfl)
    · exact core_stepAs _ (by rfl)
    · exact core_stepAs _ (by rfl)
    · exact core_stepAs _ (by rfl)
    · exact fun _ => coreG_call _ 34 _ _ [.tmp 55, .tmp 56] _ _ _ _ _ _ _ (by rfl) Try.func34 (by kernel_rfl) (by rfl) (by rfl) (wants_core 6 54 6 _ _ _ (by rfl) (by rfl) (by rfl) (known_core 6 54 _ _ (of_decide_eq_true (by rfl)) (by rfl) (by rfl) (by rfl)) _ (by rfl)) (.cons (known_core 7 55 _ _ (of_decide_eq_true (by rfl)) (by rfl) (by rfl) (by rfl)) (.cons (known_core 8 56 _ _ (of_decide_eq_true (by rfl)) (by rfl) (by rfl) (by rfl)) .nil)) (HG2.out)
    · exact core_stepAs _ (by rfl)
    · exact core_stepAs _ (by rfl)
  intro vs y9 hc
  have BZ := bel_tr BW.out hc.bel
  refine assign_one (i := 13) (.tmp 60) 6 _ _ _ (.bool true) (by kernel_rfl) (by rfl) (hc.at_ (of_decide_eq_true (by kernel_rfl)) (by rfl) 12 60 _ (.bool true) (by rfl) (by rfl) (by rfl)) (⟨Fr.out.on hc.bel, Fx.out.on hc.bel, Fy.out.on hc.bel, Fzz.out.on hc.bel⟩) ?_
  refine wpAnyH_done (by kernel_rfl) ?_ _
  refine NoPanic.normal ?_
  generalize hA : Act.put (over _ _ vs) (some 6) (.bool true) = A
  have hA0 : A.tmps.getD 6 undef = .bool true := by rw [← hA]; exact put_at _ _ _ (by rw [over_size]; exact Nat.le_of_ble_eq_true rfl)
  have hAd : A.defers = [] := by rw [← hA, put_defers, over_defers]
  clear hA hc
  go_wp2_with fail
  refine bodyPost_ret (v := .bool true) (by simp [results, Try.results10, go_sem] at hA0 ⊢; simp [hA0]) hAd ⟨rfl, BZ⟩

set_option maxHeartbeats 2000000 in
theorem times_walk (A B : Nat) (hA : A < 2 ^ 256) (hB : B < 2 ^ 256) (n : Nat) (hn : n < 4294967296) (w : World) : Calls Try.prog 10 #[num A, num B, .int .u32 (n : Nat)] w fun e w' => e = .returned (.bool true) ∧ Below w.heap.size w w' := by
  have O := ofL_any 0 (by omega)
  have ON := ofL_any n (by omega)
  have hn' : n < 2 ^ 256 := by omega
  obtain ⟨x, p, hx, hp, e1, M1⟩ := mul_ex A n hA hn'
  obtain ⟨y, q, hy, hq, e2, M2⟩ := mul_ex B n hB hn'
  by_cases h1 : p = 0
  · subst h1
    by_cases h2 : q = 0
    · subst h2
      rw [Nat.mul_zero, Nat.add_zero] at e1 e2
      have hG : Nat.gcd A B * n < 2 ^ 256 := by
        by_cases h : A = 0
        · subst h; rw [Nat.gcd_zero_left, e2]; exact hy
        · exact Nat.lt_of_le_of_lt (Nat.mul_le_mul_right n (Nat.gcd_le_left B (Nat.pos_of_ne_zero h))) (by rw [e1]; exact hx)
      have hGl : Nat.gcd A B < 2 ^ 256 := by
        by_cases h : A = 0
        · subst h; rw [Nat.gcd_zero_left]; exact hB
        · exact Nat.lt_of_le_of_lt (Nat.gcd_le_left B (Nat.pos_of_ne_zero h)) hA
      have G1 := common_any A B hA hB
      have G2 := common_any x y hx hy
      have e3 : Nat.gcd x y = Nat.gcd A B * n := by rw [← e1, ← e2, Nat.gcd_mul_right]
      rw [e3] at G2
      generalize Nat.gcd A B = G at *
      obtain ⟨z, r, hz, hr, e4, M3⟩ := mul_ex G n hGl hn'
      have hr0 : r = 0 := by omega
      subst hr0
      have hz2 : G * n = z := by omega
      rw [hz2] at G2
      exact times_some A B n x y 0 G z hn O ON M1 M2 G1 M3 G2 w
    · exact times_q A B n x y 0 q hn O ON M1 M2 (fun w => by rw [eqN q 0 hq (by decide)]; simp [h2]) w
  · exact times_p A B n x y 0 p q hn O ON M1 M2 (fun w => by rw [eqN p 0 hp (by decide)]; simp [h1]) w
end Go.Proofs.Ytgfgicpffajgdaa
