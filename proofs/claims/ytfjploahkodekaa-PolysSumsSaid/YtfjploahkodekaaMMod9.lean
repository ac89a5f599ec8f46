/-
  mods.task: what is done with numbers once they may.
-/
import Derived.Test.YtfjploahkodekaaMMod8
import Derived.Test.YtfjploahkodekaaMShort
namespace Go.Proofs.Ytfjploahkodekaa
set_option maxRecDepth 100000
open Go.RowKit
set_option linter.unusedSimpArgs false
set_option linter.unusedVariables false
attribute [local go_sem ↓] Go.wp_at_zero Go.wp_at_succ

set_option maxRecDepth 100000 in
set_option maxHeartbeats 8000000 in
theorem with_bad0 (A B M Z : Nat) (fv : Value) (k : Int)
    (hk : k ≤ 0)
    (cO : ∀ w, Calls Try.prog 26 #[.int .u64 1] w fun e w' => e = .returned (num Z) ∧ Below w.heap.size w w')
    (ck : ∀ w, Calls Try.prog 46 #[num M, num Z] w fun e w' => e = .returned (.int .i64 k) ∧ Below w.heap.size w w')
    (w : World) : Calls Try.prog 41 #[.agg #[fv], num A, num B, num M] w fun e w' => e = .returned (.tuple #[.agg #[.int .u64 0, .int .u64 0, .int .u64 0, .int .u64 0], .int .i64 1]) ∧ Below w.heap.size w w' := by
  have HcO := Lib.hid cO
  have Hck := Lib.hid ck
  clear cO ck
  go_enter Try.func41, Try.ntmps41
  go_wp2_with fail
  have BW := Lib.hid (Below.refl w.heap.size w)
  have Ex : w.heap.size ≤ w.heap.size + 1 + 1 + 1 + 1 := by have := BW.out.size; omega
  have Dtx : w.heap.size ≠ w.heap.size + 1 + 1 + 1 + 1 := by omega
  have Dax : w.heap.size + 1 ≠ w.heap.size + 1 + 1 + 1 + 1 := by omega
  have Dbx : w.heap.size + 1 + 1 ≠ w.heap.size + 1 + 1 + 1 + 1 := by omega
  have Dmx : w.heap.size + 1 + 1 + 1 ≠ w.heap.size + 1 + 1 + 1 + 1 := by omega
  generalize hW1 : (((((w.alloc (.cells #[fv] 71)).alloc (.cells #[.int .u64 (wd A 0 : Nat), .int .u64 (wd A 1 : Nat), .int .u64 (wd A 2 : Nat), .int .u64 (wd A 3 : Nat)] 24)).alloc (.cells #[.int .u64 (wd B 0 : Nat), .int .u64 (wd B 1 : Nat), .int .u64 (wd B 2 : Nat), .int .u64 (wd B 3 : Nat)] 24)).alloc (.cells #[.int .u64 (wd M 0 : Nat), .int .u64 (wd M 1 : Nat), .int .u64 (wd M 2 : Nat), .int .u64 (wd M 3 : Nat)] 24)).alloc (.cells #[.int .u64 0, .int .u64 0, .int .u64 0, .int .u64 0] 24)) = W1 at *
  have Nt : At W1 (w.heap.size) _ _ := at_of hW1 (((((At.at_ _ _ _ _ (by simp)).alloc _).alloc _).alloc _).alloc _)
  have Na : At W1 (w.heap.size + 1) _ _ := at_of hW1 ((((At.at_ _ _ _ _ (by simp)).alloc _).alloc _).alloc _)
  have Nb : At W1 (w.heap.size + 1 + 1) _ _ := at_of hW1 (((At.at_ _ _ _ _ (by simp)).alloc _).alloc _)
  have Nm : At W1 (w.heap.size + 1 + 1 + 1) _ _ := at_of hW1 ((At.at_ _ _ _ _ (by simp)).alloc _)
  have Nx : At W1 (w.heap.size + 1 + 1 + 1 + 1) _ _ := at_of hW1 (At.at_ _ _ _ _ (by simp))
  have NB := gr_of hW1 (gr_alloc (gr_alloc (gr_alloc (gr_alloc (gr_alloc BW.out _) _) _) _) _)
  clear hW1 BW 
  generalize w.heap.size + 1 + 1 + 1 + 1 = gx at *
  generalize w.heap.size + 1 + 1 + 1 = gm at *
  generalize w.heap.size + 1 + 1 = gb at *
  generalize w.heap.size + 1 = ga at *
  obtain ⟨gt, hg0⟩ : ∃ g, g = w.heap.size := ⟨_, rfl⟩
  rw [← hg0] at Nt ⊢
  rw [← hg0] at Dtx
  clear hg0
  have Ft := Lib.hid Nt
  have Fa := Lib.hid Na
  have Fb := Lib.hid Nb
  have Fm := Lib.hid Nm
  have Fx := Lib.hid Nx
  have BW := Lib.hid NB
  clear NB Nt Na Nb Nm Nx
  try simp only [List.append_eq, List.cons_append, List.nil_append]
  refine wp_region_noPanic ?_
  refine wp_region_held_drew (S := fun w' => At w' gm 24 #[.int .u64 (wd M 0 : Nat), .int .u64 (wd M 1 : Nat), .int .u64 (wd M 2 : Nat), .int .u64 (wd M 3 : Nat)] ∧ At w' ga 24 #[.int .u64 (wd A 0 : Nat), .int .u64 (wd A 1 : Nat), .int .u64 (wd A 2 : Nat), .int .u64 (wd A 3 : Nat)] ∧ At w' gb 24 #[.int .u64 (wd B 0 : Nat), .int .u64 (wd B 1 : Nat), .int .u64 (wd B 2 : Nat), .int .u64 (wd B 3 : Nat)]) (by kernel_rfl) (⟨Fm.out.drew, Fa.out.drew, Fb.out.drew⟩) (fun _ => ?_)
  refine wpAnyH_cores (fuel := 0) (⟨0, 10, [], Kind.val (.agg #[.int .u64 (wd M 0 : Nat), .int .u64 (wd M 1 : Nat), .int .u64 (wd M 2 : Nat), .int .u64 (wd M 3 : Nat)]), true⟩ :: ⟨1, 11, [0], Kind.val (.agg #[.int .u64 (wd Z 0 : Nat), .int .u64 (wd Z 1 : Nat), .int .u64 (wd Z 2 : Nat), .int .u64 (wd Z 3 : Nat)]), false⟩ :: ⟨2, 12, [0, 1], Kind.val (.int .i64 k), false⟩ :: ⟨3, 13, [2], Kind.val (.bool true), true⟩ :: ⟨4, 14, [3], Kind.val (.bool true), true⟩ :: ⟨5, 15, [4], Kind.val (undef), true⟩ :: ⟨6, 16, [4, 5], Kind.val (undef), true⟩ :: ⟨7, 17, [4, 5, 6], Kind.val (undef), true⟩ :: ⟨8, 18, [4, 7], Kind.val (undef), true⟩ :: ⟨9, 19, [4, 8], Kind.val (.bool true), true⟩ :: ⟨10, 20, [9], Kind.val (.bool true), true⟩ :: ⟨11, 21, [10], Kind.val (undef), true⟩ :: ⟨12, 22, [10, 11], Kind.val (undef), true⟩ :: ⟨13, 23, [10, 11, 12], Kind.val (undef), true⟩ :: ⟨14, 24, [10, 13], Kind.val (undef), true⟩ :: ⟨15, 25, [10, 14], Kind.val (.bool true), true⟩ :: []) _ _ W1 _ ?_ ?_ ?_ ?_ ?_ ?_ ?_ ?_ ?_ ?_ ?_
  · rfl
  · kernel_rfl
  · exact of_decide_eq_true (by kernel_rfl)
  · exact all_cons ⟨_, by rfl, by rfl⟩ (all_cons ⟨_, by rfl, by rfl⟩ (all_cons ⟨_, by rfl, by rfl⟩ (all_cons ⟨_, by rfl, by rfl⟩ (all_cons ⟨_, by rfl, by rfl⟩ (all_cons ⟨_, by rfl, by rfl⟩ (all_cons ⟨_, by rfl, by rfl⟩ (all_cons ⟨_, by rfl, by rfl⟩ (all_cons ⟨_, by rfl, by rfl⟩ (all_cons ⟨_, by rfl, by rfl⟩ (all_cons ⟨_, by rfl, by rfl⟩ (all_cons ⟨_, by rfl, by rfl⟩ (all_cons ⟨_, by rfl, by rfl⟩ (all_cons ⟨_, by rfl, by rfl⟩ (all_cons ⟨_, by rfl, by rfl⟩ (all_cons ⟨_, by rfl, by rfl⟩ (all_nil))))))))))))))))
  · exact fun _ hb => ⟨Fm.out.on hb, Fa.out.on hb, Fb.out.on hb⟩
  · exact (Below.refl _ _).drew
  · kernel_rfl
  · exact fun _ _ _ _ _ h => h
  · refine all_cons ?_ (all_cons ?_ (all_cons ?_ (all_cons ?_ (all_cons ?_ (all_cons ?_ (all_cons ?_ (all_cons ?_ (all_cons ?_ (all_cons ?_ (all_cons ?_ (all_cons ?_ (all_cons ?_ (all_cons ?_ (all_cons ?_ (all_cons ?_ (all_nil))))))))))))))))
    · exact coreG_loadP _ _ _ _ _ _ gm _ _ _ _ (by rfl) (by rfl) (wants_none) (known_old 7 _ (of_decide_eq_true (by rfl)) (by rfl)) (fun _ hs => hs.1)
    · exact core_pureAs _ (by rfl)
    · exact core_pureAs _ (by rfl)
    · exact coreG_bin _ _ _ _ _ _ _ _ _ _ _ _ _ (by rfl) (by rfl) (wants_none) (known_core 2 12 _ _ (of_decide_eq_true (by rfl)) (by rfl) (by rfl) (by rfl)) (known_const _) ((fun ρ w hx hy => by simp only [execOp, hx, hy]; simp [go_sem]; exact hk))
    · exact coreG_move _ _ _ _ _ _ _ (by rfl) (by rfl) (wants_none) (known_core 3 13 _ _ (of_decide_eq_true (by rfl)) (by rfl) (by rfl) (by rfl))
    · exact coreG_skip _ _ _ _ _ _ (by rfl) (by rfl) (wants_core 4 14 4 _ _ _ (by rfl) (by rfl) (by rfl) (known_core 4 14 _ _ (of_decide_eq_true (by rfl)) (by rfl) (by rfl) (by rfl)) _ (by rfl))
    · exact coreG_skip _ _ _ _ _ _ (by rfl) (by rfl) (wants_core 4 14 4 _ _ _ (by rfl) (by rfl) (by rfl) (known_core 4 14 _ _ (of_decide_eq_true (by rfl)) (by rfl) (by rfl) (by rfl)) _ (by rfl))
    · exact coreG_skip _ _ _ _ _ _ (by rfl) (by rfl) (wants_core 4 14 4 _ _ _ (by rfl) (by rfl) (by rfl) (known_core 4 14 _ _ (of_decide_eq_true (by rfl)) (by rfl) (by rfl) (by rfl)) _ (by rfl))
    · exact coreG_skip _ _ _ _ _ _ (by rfl) (by rfl) (wants_core 4 14 4 _ _ _ (by rfl) (by rfl) (by rfl) (known_core 4 14 _ _ (of_decide_eq_true (by rfl)) (by rfl) (by rfl) (by rfl)) _ (by rfl))
    · exact coreG_pick _ _ _ _ _ _ _ _ _ _ _ _ (by rfl) (by rfl) (wants_none) (known_core 4 14 _ _ (of_decide_eq_true (by rfl)) (by rfl) (by rfl) (by rfl)) (known_const _) (known_core 8 18 _ _ (of_decide_eq_true (by rfl)) (by rfl) (by rfl) (by rfl)) (by rfl)
    · exact coreG_move _ _ _ _ _ _ _ (by rfl) (by rfl) (wants_none) (known_core 9 19 _ _ (of_decide_eq_true (by rfl)) (by rfl) (by rfl) (by rfl))
    · exact coreG_skip _ _ _ _ _ _ (by rfl) (by rfl) (wants_core 10 20 10 _ _ _ (by rfl) (by rfl) (by rfl) (known_core 10 20 _ _ (of_decide_eq_true (by rfl)) (by rfl) (by rfl) (by rfl)) _ (by rfl))
    · exact coreG_skip _ _ _ _ _ _ (by rfl) (by rfl) (wants_core 10 20 10 _ _ _ (by rfl) (by rfl) (by rfl) (known_core 10 20 _ _ (of_decide_eq_true (by rfl)) (by rfl) (by rfl) (by rfl)) _ (by rfl))
    · exact coreG_skip _ _ _ _ _ _ (by rfl) (by rfl) (wants_core 10 20 10 _ _ _ (by rfl) (by rfl) (by rfl) (known_core 10 20 _ _ (of_decide_eq_true (by rfl)) (by rfl) (by rfl) (by rfl)) _ (by rfl))
    · exact coreG_skip _ _ _ _ _ _ (by rfl) (by rfl) (wants_core 10 20 10 _ _ _ (by rfl) (by rfl) (by rfl) (known_core 10 20 _ _ (of_decide_eq_true (by rfl)) (by rfl) (by rfl) (by rfl)) _ (by rfl))
    · exact coreG_pick _ _ _ _ _ _ _ _ _ _ _ _ (by rfl) (by rfl) (wants_none) (known_core 10 20 _ _ (of_decide_eq_true (by rfl)) (by rfl) (by rfl) (by rfl)) (known_const _) (known_core 14 24 _ _ (of_decide_eq_true (by rfl)) (by rfl) (by rfl) (by rfl)) (by rfl)
  · refine all_cons ?_ (all_cons ?_ (all_cons ?_ (all_cons ?_ (all_cons ?_ (all_cons ?_ (all_cons ?_ (all_cons ?_ (all_cons ?_ (all_cons ?_ (all_cons ?_ (all_cons ?_ (all_cons ?_ (all_cons ?_ (all_cons ?_ (all_cons ?_ (all_nil))))))))))))))))
    · exact core_stepAs _ (by rfl)
    · exact fun _ => coreG_call _ 26 _ _ [.const (.int .u64 1)] _ _ _ _ _ _ _ (by rfl) Try.func26 (by kernel_rfl) (by rfl) (by rfl) (wants_none) (.cons (known_const _) .nil) (HcO.out)
    · exact fun _ => coreG_call _ 46 _ _ [.tmp 10, .tmp 11] _ _ _ _ _ _ _ (by rfl) Try.func46 (by kernel_rfl) (by rfl) (by rfl) (wants_none) (.cons (known_core 0 10 _ _ (of_decide_eq_true (by rfl)) (by rfl) (by rfl) (by rfl)) (.cons (known_core 1 11 _ _ (of_decide_eq_true (by rfl)) (by rfl) (by rfl) (by rfl)) .nil)) (Hck.out)
    · exact core_stepAs _ (by rfl)
    · exact core_stepAs _ (by rfl)
    · exact core_stepAs _ (by rfl)
    · exact core_stepAs _ (by rfl)
    · exact core_stepAs _ (by rfl)
    · exact core_stepAs _ (by rfl)
    · exact core_stepAs _ (by rfl)
    · exact core_stepAs _ (by rfl)
    · exact core_stepAs _ (by rfl)
    · exact core_stepAs _ (by rfl)
    · exact core_stepAs _ (by rfl)
    · exact core_stepAs _ (by rfl)
    · exact core_stepAs _ (by rfl)
  intro vs y2 hc
  obtain ⟨vv0, vv1, vv2, vv3, vv4, vv5, vv6, vv7, vv8, vv9, vv10, vv11, vv12, vv13, vv14, vv15, rfl⟩ := len16 vs hc.lv
  have qq0 : vv0 = .agg #[.int .u64 (wd M 0 : Nat), .int .u64 (wd M 1 : Nat), .int .u64 (wd M 2 : Nat), .int .u64 (wd M 3 : Nat)] := by obtain ⟨xx, hx, hy⟩ := hc.ok 0 _ rfl rfl; exact (Option.some.inj (show some vv0 = some xx from hx)).trans hy
  have qq1 : vv1 = .agg #[.int .u64 (wd Z 0 : Nat), .int .u64 (wd Z 1 : Nat), .int .u64 (wd Z 2 : Nat), .int .u64 (wd Z 3 : Nat)] := by obtain ⟨xx, hx, hy⟩ := hc.ok 1 _ rfl rfl; exact (Option.some.inj (show some vv1 = some xx from hx)).trans hy
  have qq2 : vv2 = .int .i64 k := by obtain ⟨xx, hx, hy⟩ := hc.ok 2 _ rfl rfl; exact (Option.some.inj (show some vv2 = some xx from hx)).trans hy
  have qq3 : vv3 = .bool true := by obtain ⟨xx, hx, hy⟩ := hc.ok 3 _ rfl rfl; exact (Option.some.inj (show some vv3 = some xx from hx)).trans hy
  have qq4 : vv4 = .bool true := by obtain ⟨xx, hx, hy⟩ := hc.ok 4 _ rfl rfl; exact (Option.some.inj (show some vv4 = some xx from hx)).trans hy
  have qq5 : vv5 = undef := by obtain ⟨xx, hx, hy⟩ := hc.ok 5 _ rfl rfl; exact (Option.some.inj (show some vv5 = some xx from hx)).trans hy
  have qq6 : vv6 = undef := by obtain ⟨xx, hx, hy⟩ := hc.ok 6 _ rfl rfl; exact (Option.some.inj (show some vv6 = some xx from hx)).trans hy
  have qq7 : vv7 = undef := by obtain ⟨xx, hx, hy⟩ := hc.ok 7 _ rfl rfl; exact (Option.some.inj (show some vv7 = some xx from hx)).trans hy
  have qq8 : vv8 = undef := by obtain ⟨xx, hx, hy⟩ := hc.ok 8 _ rfl rfl; exact (Option.some.inj (show some vv8 = some xx from hx)).trans hy
  have qq9 : vv9 = .bool true := by obtain ⟨xx, hx, hy⟩ := hc.ok 9 _ rfl rfl; exact (Option.some.inj (show some vv9 = some xx from hx)).trans hy
  have qq10 : vv10 = .bool true := by obtain ⟨xx, hx, hy⟩ := hc.ok 10 _ rfl rfl; exact (Option.some.inj (show some vv10 = some xx from hx)).trans hy
  have qq11 : vv11 = undef := by obtain ⟨xx, hx, hy⟩ := hc.ok 11 _ rfl rfl; exact (Option.some.inj (show some vv11 = some xx from hx)).trans hy
  have qq12 : vv12 = undef := by obtain ⟨xx, hx, hy⟩ := hc.ok 12 _ rfl rfl; exact (Option.some.inj (show some vv12 = some xx from hx)).trans hy
  have qq13 : vv13 = undef := by obtain ⟨xx, hx, hy⟩ := hc.ok 13 _ rfl rfl; exact (Option.some.inj (show some vv13 = some xx from hx)).trans hy
  have qq14 : vv14 = undef := by obtain ⟨xx, hx, hy⟩ := hc.ok 14 _ rfl rfl; exact (Option.some.inj (show some vv14 = some xx from hx)).trans hy
  have qq15 : vv15 = .bool true := by obtain ⟨xx, hx, hy⟩ := hc.ok 15 _ rfl rfl; exact (Option.some.inj (show some vv15 = some xx from hx)).trans hy
  have BZ := hc.bel
  clear hc
  have Nt := Ft.out.on BZ
  have Na := Fa.out.on BZ
  have Nb := Fb.out.on BZ
  have Nm := Fm.out.on BZ
  have Nx := Fx.out.on BZ
  have NB := bel_tr BW.out BZ
  clear BW BZ Ft Fa Fb Fm Fx
  subst qq0 qq1 qq2 qq3 qq4 qq5 qq6 qq7 qq8 qq9 qq10 qq11 qq12 qq13 qq14 qq15
  simp only [List.map_cons, List.map_nil, over, Act.put, List.setIfInBounds_toArray, List.set_cons_zero, List.set_cons_succ]
  refine wpAnyH_done (by kernel_rfl) ?_ _
  refine NoPanic.normal ?_
  have Ft := Lib.hid Nt
  have Fa := Lib.hid Na
  have Fb := Lib.hid Nb
  have Fm := Lib.hid Nm
  have Fx := Lib.hid Nx
  have BW := Lib.hid NB
  clear NB Nt Na Nb Nm Nx
  have Lx := Fx.out.lt
  have cx0 := Fx.out.c0
  have cx1 := Fx.out.c1
  have cx2 := Fx.out.c2
  have cx3 := Fx.out.c3
  have fx0 : y2.frozen? ⟨gx, 0, none⟩ = false := Fx.out.frozen 0
  have fx1 : y2.frozen? ⟨gx, 1, none⟩ = false := Fx.out.frozen 1
  have fx2 : y2.frozen? ⟨gx, 2, none⟩ = false := Fx.out.frozen 2
  have fx3 : y2.frozen? ⟨gx, 3, none⟩ = false := Fx.out.frozen 3
  go_wp2_with fail
  clear Lx cx0 cx1 cx2 cx3 fx0 fx1 fx2 fx3
  generalize hW3 : ((((y2.setCell ⟨gx, 0, none⟩ (.int .u64 0)).setCell ⟨gx, 1, none⟩ (.int .u64 0)).setCell ⟨gx, 2, none⟩ (.int .u64 0)).setCell ⟨gx, 3, none⟩ (.int .u64 0)) = W3 at *
  have Nt := at_of hW3 ((Ft.out).far4 Dtx _ _ _ _)
  have Na := at_of hW3 ((Fa.out).far4 Dax _ _ _ _)
  have Nb := at_of hW3 ((Fb.out).far4 Dbx _ _ _ _)
  have Nm := at_of hW3 ((Fm.out).far4 Dmx _ _ _ _)
  have Nx := at_of hW3 ((Fx.out).put4 _ _ _ _)
  have NB := gr_of hW3 (((((BW.out).setCell Ex _).setCell Ex _).setCell Ex _).setCell Ex _)
  clear hW3 BW Ft Fa Fb Fm Fx
  have Ft := Lib.hid Nt
  have Fa := Lib.hid Na
  have Fb := Lib.hid Nb
  have Fm := Lib.hid Nm
  have Fx := Lib.hid Nx
  have BW := Lib.hid NB
  clear NB Nt Na Nb Nm Nx
  have Lx := Fx.out.lt
  have cx0 := Fx.out.c0
  have cx1 := Fx.out.c1
  have cx2 := Fx.out.c2
  have cx3 := Fx.out.c3
  refine bodyPost_ret (v := .tuple #[.agg #[.int .u64 0, .int .u64 0, .int .u64 0, .int .u64 0], .int .i64 1]) (by simp [results, Try.results41, go_sem, *]) rfl ⟨rfl, BW.out⟩

set_option maxRecDepth 100000 in
set_option maxHeartbeats 8000000 in
theorem with_bad1 (A B M Z : Nat) (fv : Value) (k j : Int)
    (hk : 0 < k)
    (hj : 0 ≤ j)
    (cO : ∀ w, Calls Try.prog 26 #[.int .u64 1] w fun e w' => e = .returned (num Z) ∧ Below w.heap.size w w')
    (ck : ∀ w, Calls Try.prog 46 #[num M, num Z] w fun e w' => e = .returned (.int .i64 k) ∧ Below w.heap.size w w')
    (cj : ∀ w, Calls Try.prog 46 #[num A, num M] w fun e w' => e = .returned (.int .i64 j) ∧ Below w.heap.size w w')
    (w : World) : Calls Try.prog 41 #[.agg #[fv], num A, num B, num M] w fun e w' => e = .returned (.tuple #[.agg #[.int .u64 0, .int .u64 0, .int .u64 0, .int .u64 0], .int .i64 1]) ∧ Below w.heap.size w w' := by
  have HcO := Lib.hid cO
  have Hck := Lib.hid ck
  have Hcj := Lib.hid cj
  clear cO ck cj
  go_enter Try.func41, Try.ntmps41
  go_wp2_with fail
  have BW := Lib.hid (Below.refl w.heap.size w)
  have Ex : w.heap.size ≤ w.heap.size + 1 + 1 + 1 + 1 := by have := BW.out.size; omega
  have Dtx : w.heap.size ≠ w.heap.size + 1 + 1 + 1 + 1 := by omega
  have Dax : w.heap.size + 1 ≠ w.heap.size + 1 + 1 + 1 + 1 := by omega
  have Dbx : w.heap.size + 1 + 1 ≠ w.heap.size + 1 + 1 + 1 + 1 := by omega
  have Dmx : w.heap.size + 1 + 1 + 1 ≠ w.heap.size + 1 + 1 + 1 + 1 := by omega
  generalize hW1 : (((((w.alloc (.cells #[fv] 71)).alloc (.cells #[.int .u64 (wd A 0 : Nat), .int .u64 (wd A 1 : Nat), .int .u64 (wd A 2 : Nat), .int .u64 (wd A 3 : Nat)] 24)).alloc (.cells #[.int .u64 (wd B 0 : Nat), .int .u64 (wd B 1 : Nat), .int .u64 (wd B 2 : Nat), .int .u64 (wd B 3 : Nat)] 24)).alloc (.cells #[.int .u64 (wd M 0 : Nat), .int .u64 (wd M 1 : Nat), .int .u64 (wd M 2 : Nat), .int .u64 (wd M 3 : Nat)] 24)).alloc (.cells #[.int .u64 0, .int .u64 0, .int .u64 0, .int .u64 0] 24)) = W1 at *
  have Nt : At W1 (w.heap.size) _ _ := at_of hW1 (((((At.at_ _ _ _ _ (by simp)).alloc _).alloc _).alloc _).alloc _)
  have Na : At W1 (w.heap.size + 1) _ _ := at_of hW1 ((((At.at_ _ _ _ _ (by simp)).alloc _).alloc _).alloc _)
  have Nb : At W1 (w.heap.size + 1 + 1) _ _ := at_of hW1 (((At.at_ _ _ _ _ (by simp)).alloc _).alloc _)
  have Nm : At W1 (w.heap.size + 1 + 1 + 1) _ _ := at_of hW1 ((At.at_ _ _ _ _ (by simp)).alloc _)
  have Nx : At W1 (w.heap.size + 1 + 1 + 1 + 1) _ _ := at_of hW1 (At.at_ _ _ _ _ (by simp))
  have NB := gr_of hW1 (gr_alloc (gr_alloc (gr_alloc (gr_alloc (gr_alloc BW.out _) _) _) _) _)
  clear hW1 BW 
  generalize w.heap.size + 1 + 1 + 1 + 1 = gx at *
  generalize w.heap.size + 1 + 1 + 1 = gm at *
  generalize w.heap.size + 1 + 1 = gb at *
  generalize w.heap.size + 1 = ga at *
  obtain ⟨gt, hg0⟩ : ∃ g, g = w.heap.size := ⟨_, rfl⟩
  rw [← hg0] at Nt ⊢
  rw [← hg0] at Dtx
  clear hg0
  have Ft := Lib.hid Nt
  have Fa := Lib.hid Na
  have Fb := Lib.hid Nb
  have Fm := Lib.hid Nm
  have Fx := Lib.hid Nx
  have BW := Lib.hid NB
  clear NB Nt Na Nb Nm Nx
  try simp only [List.append_eq, List.cons_append, List.nil_append]
  refine wp_region_noPanic ?_
  refine wp_region_held_drew (S := fun w' => At w' gm 24 #[.int .u64 (wd M 0 : Nat), .int .u64 (wd M 1 : Nat), .int .u64 (wd M 2 : Nat), .int .u64 (wd M 3 : Nat)] ∧ At w' ga 24 #[.int .u64 (wd A 0 : Nat), .int .u64 (wd A 1 : Nat), .int .u64 (wd A 2 : Nat), .int .u64 (wd A 3 : Nat)] ∧ At w' gb 24 #[.int .u64 (wd B 0 : Nat), .int .u64 (wd B 1 : Nat), .int .u64 (wd B 2 : Nat), .int .u64 (wd B 3 : Nat)]) (by kernel_rfl) (⟨Fm.out.drew, Fa.out.drew, Fb.out.drew⟩) (fun _ => ?_)
  refine wpAnyH_cores (fuel := 0) (⟨0, 10, [], Kind.val (.agg #[.int .u64 (wd M 0 : Nat), .int .u64 (wd M 1 : Nat), .int .u64 (wd M 2 : Nat), .int .u64 (wd M 3 : Nat)]), true⟩ :: ⟨1, 11, [0], Kind.val (.agg #[.int .u64 (wd Z 0 : Nat), .int .u64 (wd Z 1 : Nat), .int .u64 (wd Z 2 : Nat), .int .u64 (wd Z 3 : Nat)]), false⟩ :: ⟨2, 12, [0, 1], Kind.val (.int .i64 k), false⟩ :: ⟨3, 13, [2], Kind.val (.bool false), true⟩ :: ⟨4, 14, [3], Kind.val (.bool false), true⟩ :: ⟨5, 15, [4], Kind.val (.agg #[.int .u64 (wd A 0 : Nat), .int .u64 (wd A 1 : Nat), .int .u64 (wd A 2 : Nat), .int .u64 (wd A 3 : Nat)]), true⟩ :: ⟨6, 16, [4, 5], Kind.val (.agg #[.int .u64 (wd M 0 : Nat), .int .u64 (wd M 1 : Nat), .int .u64 (wd M 2 : Nat), .int .u64 (wd M 3 : Nat)]), true⟩ :: ⟨7, 17, [4, 5, 6], Kind.val (.int .i64 j), false⟩ :: ⟨8, 18, [4, 7], Kind.val (.bool true), true⟩ :: ⟨9, 19, [4, 8], Kind.val (.bool true), true⟩ :: ⟨10, 20, [9], Kind.val (.bool true), true⟩ :: ⟨11, 21, [10], Kind.val (undef), true⟩ :: ⟨12, 22, [10, 11], Kind.val (undef), true⟩ :: ⟨13, 23, [10, 11, 12], Kind.val (undef), true⟩ :: ⟨14, 24, [10, 13], Kind.val (undef), true⟩ :: ⟨15, 25, [10, 14], Kind.val (.bool true), true⟩ :: []) _ _ W1 _ ?_ ?_ ?_ ?_ ?_ ?_ ?_ ?_ ?_ ?_ ?_
  · rfl
  · kernel_rfl
  · exact of_decide_eq_true (by kernel_rfl)
  · exact all_cons ⟨_, by rfl, by rfl⟩ (all_cons ⟨_, by rfl, by rfl⟩ (all_cons ⟨_, by rfl, by rfl⟩ (all_cons ⟨_, by rfl, by rfl⟩ (all_cons ⟨_, by rfl, by rfl⟩ (all_cons ⟨_, by rfl, by rfl⟩ (all_cons ⟨_, by rfl, by rfl⟩ (all_cons ⟨_, by rfl, by rfl⟩ (all_cons ⟨_, by rfl, by rfl⟩ (all_cons ⟨_, by rfl, by rfl⟩ (all_cons ⟨_, by rfl, by rfl⟩ (all_cons ⟨_, by rfl, by rfl⟩ (all_cons ⟨_, by rfl, by rfl⟩ (all_cons ⟨_, by rfl, by rfl⟩ (all_cons ⟨_, by rfl, by rfl⟩ (all_cons ⟨_, by rfl, by rfl⟩ (all_nil))))))))))))))))
  · exact fun _ hb => ⟨Fm.out.on hb, Fa.out.on hb, Fb.out.on hb⟩
  · exact (Below.refl _ _).drew
  · kernel_rfl
  · exact fun _ _ _ _ _ h => h
  · refine all_cons ?_ (all_cons ?_ (all_cons ?_ (all_cons ?_ (all_cons ?_ (all_cons ?_ (all_cons ?_ (all_cons ?_ (all_cons ?_ (all_cons ?_ (all_cons ?_ (all_cons ?_ (all_cons ?_ (all_cons ?_ (all_cons ?_ (all_cons ?_ (all_nil))))))))))))))))
    · exact coreG_loadP _ _ _ _ _ _ gm _ _ _ _ (by rfl) (by rfl) (wants_none) (known_old 7 _ (of_decide_eq_true (by rfl)) (by rfl)) (fun _ hs => hs.1)
    · exact core_pureAs _ (by rfl)
    · exact core_pureAs _ (by rfl)
    · exact coreG_bin _ _ _ _ _ _ _ _ _ _ _ _ _ (by rfl) (by rfl) (wants_none) (known_core 2 12 _ _ (of_decide_eq_true (by rfl)) (by rfl) (by rfl) (by rfl)) (known_const _) ((fun ρ w hx hy => by simp only [execOp, hx, hy]; simp [go_sem]; exact hk))
    · exact coreG_move _ _ _ _ _ _ _ (by rfl) (by rfl) (wants_none) (known_core 3 13 _ _ (of_decide_eq_true (by rfl)) (by rfl) (by rfl) (by rfl))
    · exact coreG_loadP _ _ _ _ _ _ ga _ _ _ _ (by rfl) (by rfl) (wants_core 4 14 4 _ _ _ (by rfl) (by rfl) (by rfl) (known_core 4 14 _ _ (of_decide_eq_true (by rfl)) (by rfl) (by rfl) (by rfl)) _ (by rfl)) (known_old 5 _ (of_decide_eq_true (by rfl)) (by rfl)) (fun _ hs => hs.2.1)
    · exact coreG_loadP _ _ _ _ _ _ gm _ _ _ _ (by rfl) (by rfl) (wants_core 4 14 4 _ _ _ (by rfl) (by rfl) (by rfl) (known_core 4 14 _ _ (of_decide_eq_true (by rfl)) (by rfl) (by rfl) (by rfl)) _ (by rfl)) (known_old 7 _ (of_decide_eq_true (by rfl)) (by rfl)) (fun _ hs => hs.1)
    · exact core_pureAs _ (by rfl)
    · exact coreG_bin _ _ _ _ _ _ _ _ _ _ _ _ _ (by rfl) (by rfl) (wants_core 4 14 4 _ _ _ (by rfl) (by rfl) (by rfl) (known_core 4 14 _ _ (of_decide_eq_true (by rfl)) (by rfl) (by rfl) (by rfl)) _ (by rfl)) (known_core 7 17 _ _ (of_decide_eq_true (by rfl)) (by rfl) (by rfl) (by rfl)) (known_const _) ((fun ρ w hx hy => by simp only [execOp, hx, hy]; simp [go_sem]; exact hj))
    · exact coreG_pick _ _ _ _ _ _ _ _ _ _ _ _ (by rfl) (by rfl) (wants_none) (known_core 4 14 _ _ (of_decide_eq_true (by rfl)) (by rfl) (by rfl) (by rfl)) (known_const _) (known_core 8 18 _ _ (of_decide_eq_true (by rfl)) (by rfl) (by rfl) (by rfl)) (by rfl)
    · exact coreG_move _ _ _ _ _ _ _ (by rfl) (by rfl) (wants_none) (known_core 9 19 _ _ (of_decide_eq_true (by rfl)) (by rfl) (by rfl) (by rfl))
    · exact coreG_skip _ _ _ _ _ _ (by rfl) (by rfl) (wants_core 10 20 10 _ _ _ (by rfl) (by rfl) (by rfl) (known_core 10 20 _ _ (of_decide_eq_true (by rfl)) (by rfl) (by rfl) (by rfl)) _ (by rfl))
    · exact coreG_skip _ _ _ _ _ _ (by rfl) (by rfl) (wants_core 10 20 10 _ _ _ (by rfl) (by rfl) (by rfl) (known_core 10 20 _ _ (of_decide_eq_true (by rfl)) (by rfl) (by rfl) (by rfl)) _ (by rfl))
    · exact coreG_skip _ _ _ _ _ _ (by rfl) (by rfl) (wants_core 10 20 10 _ _ _ (by rfl) (by rfl) (by rfl) (known_core 10 20 _ _ (of_decide_eq_true (by rfl)) (by rfl) (by rfl) (by rfl)) _ (by rfl))
    · exact coreG_skip _ _ _ _ _ _ (by rfl) (by rfl) (wants_core 10 20 10 _ _ _ (by rfl) (by rfl) (by rfl) (known_core 10 20 _ _ (of_decide_eq_true (by rfl)) (by rfl) (by rfl) (by rfl)) _ (by rfl))
    · exact coreG_pick _ _ _ _ _ _ _ _ _ _ _ _ (by rfl) (by rfl) (wants_none) (known_core 10 20 _ _ (of_decide_eq_true (by rfl)) (by rfl) (by rfl) (by rfl)) (known_const _) (known_core 14 24 _ _ (of_decide_eq_true (by rfl)) (by rfl) (by rfl) (by rfl)) (by rfl)
  · refine all_cons ?_ (all_cons ?_ (all_cons ?_ (all_cons ?_ (all_cons ?_ (all_cons ?_ (all_cons ?_ (all_cons ?_ (all_cons ?_ (all_cons ?_ (all_cons ?_ (all_cons ?_ (all_cons ?_ (all_cons ?_ (all_cons ?_ (all_cons ?_ (all_nil))))))))))))))))
    · exact core_stepAs _ (by rfl)
    · exact fun _ => coreG_call _ 26 _ _ [.const (.int .u64 1)] _ _ _ _ _ _ _ (by rfl) Try.func26 (by kernel_rfl) (by rfl) (by rfl) (wants_none) (.cons (known_const _) .nil) (HcO.out)
    · exact fun _ => coreG_call _ 46 _ _ [.tmp 10, .tmp 11] _ _ _ _ _ _ _ (by rfl) Try.func46 (by kernel_rfl) (by rfl) (by rfl) (wants_none) (.cons (known_core 0 10 _ _ (of_decide_eq_true (by rfl)) (by rfl) (by rfl) (by rfl)) (.cons (known_core 1 11 _ _ (of_decide_eq_true (by rfl)) (by rfl) (by rfl) (by rfl)) .nil)) (Hck.out)
    · exact core_stepAs _ (by rfl)
    · exact core_stepAs _ (by rfl)
    · exact core_stepAs _ (by rfl)
    · exact core_stepAs _ (by rfl)
    · exact fun _ => coreG_call _ 46 _ _ [.tmp 15, .tmp 16] _ _ _ _ _ _ _ (by rfl) Try.func46 (by kernel_rfl) (by rfl) (by rfl) (wants_core 4 14 4 _ _ _ (by rfl) (by rfl) (by rfl) (known_core 4 14 _ _ (of_decide_eq_true (by rfl)) (by rfl) (by rfl) (by rfl)) _ (by rfl)) (.cons (known_core 5 15 _ _ (of_decide_eq_true (by rfl)) (by rfl) (by rfl) (by rfl)) (.cons (known_core 6 16 _ _ (of_decide_eq_true (by rfl)) (by rfl) (by rfl) (by rfl)) .nil)) (Hcj.out)
    · exact core_stepAs _ (by rfl)
    · exact core_stepAs _ (by rfl)
    · exact core_stepAs _ (by rfl)
    · exact core_stepAs _ (by rfl)
    · exact core_stepAs _ (by rfl)
    · exact core_stepAs _ (by rfl)
    · exact core_stepAs _ (by rfl)
    · exact core_stepAs _ (by rfl)
  intro vs y2 hc
  obtain ⟨vv0, vv1, vv2, vv3, vv4, vv5, vv6, vv7, vv8, vv9, vv10, vv11, vv12, vv13, vv14, vv15, rfl⟩ := len16 vs hc.lv
  have qq0 : vv0 = .agg #[.int .u64 (wd M 0 : Nat), .int .u64 (wd M 1 : Nat), .int .u64 (wd M 2 : Nat), .int .u64 (wd M 3 : Nat)] := by obtain ⟨xx, hx, hy⟩ := hc.ok 0 _ rfl rfl; exact (Option.some.inj (show some vv0 = some xx from hx)).trans hy
  have qq1 : vv1 = .agg #[.int .u64 (wd Z 0 : Nat), .int .u64 (wd Z 1 : Nat), .int .u64 (wd Z 2 : Nat), .int .u64 (wd Z 3 : Nat)] := by obtain ⟨xx, hx, hy⟩ := hc.ok 1 _ rfl rfl; exact (Option.some.inj (show some vv1 = some xx from hx)).trans hy
  have qq2 : vv2 = .int .i64 k := by obtain ⟨xx, hx, hy⟩ := hc.ok 2 _ rfl rfl; exact (Option.some.inj (show some vv2 = some xx from hx)).trans hy
  have qq3 : vv3 = .bool false := by obtain ⟨xx, hx, hy⟩ := hc.ok 3 _ rfl rfl; exact (Option.some.inj (show some vv3 = some xx from hx)).trans hy
  have qq4 : vv4 = .bool false := by obtain ⟨xx, hx, hy⟩ := hc.ok 4 _ rfl rfl; exact (Option.some.inj (show some vv4 = some xx from hx)).trans hy
  have qq5 : vv5 = .agg #[.int .u64 (wd A 0 : Nat), .int .u64 (wd A 1 : Nat), .int .u64 (wd A 2 : Nat), .int .u64 (wd A 3 : Nat)] := by obtain ⟨xx, hx, hy⟩ := hc.ok 5 _ rfl rfl; exact (Option.some.inj (show some vv5 = some xx from hx)).trans hy
  have qq6 : vv6 = .agg #[.int .u64 (wd M 0 : Nat), .int .u64 (wd M 1 : Nat), .int .u64 (wd M 2 : Nat), .int .u64 (wd M 3 : Nat)] := by obtain ⟨xx, hx, hy⟩ := hc.ok 6 _ rfl rfl; exact (Option.some.inj (show some vv6 = some xx from hx)).trans hy
  have qq7 : vv7 = .int .i64 j := by obtain ⟨xx, hx, hy⟩ := hc.ok 7 _ rfl rfl; exact (Option.some.inj (show some vv7 = some xx from hx)).trans hy
  have qq8 : vv8 = .bool true := by obtain ⟨xx, hx, hy⟩ := hc.ok 8 _ rfl rfl; exact (Option.some.inj (show some vv8 = some xx from hx)).trans hy
  have qq9 : vv9 = .bool true := by obtain ⟨xx, hx, hy⟩ := hc.ok 9 _ rfl rfl; exact (Option.some.inj (show some vv9 = some xx from hx)).trans hy
  have qq10 : vv10 = .bool true := by obtain ⟨xx, hx, hy⟩ := hc.ok 10 _ rfl rfl; exact (Option.some.inj (show some vv10 = some xx from hx)).trans hy
  have qq11 : vv11 = undef := by obtain ⟨xx, hx, hy⟩ := hc.ok 11 _ rfl rfl; exact (Option.some.inj (show some vv11 = some xx from hx)).trans hy
  have qq12 : vv12 = undef := by obtain ⟨xx, hx, hy⟩ := hc.ok 12 _ rfl rfl; exact (Option.some.inj (show some vv12 = some xx from hx)).trans hy
  have qq13 : vv13 = undef := by obtain ⟨xx, hx, hy⟩ := hc.ok 13 _ rfl rfl; exact (Option.some.inj (show some vv13 = some xx from hx)).trans hy
  have qq14 : vv14 = undef := by obtain ⟨xx, hx, hy⟩ := hc.ok 14 _ rfl rfl; exact (Option.some.inj (show some vv14 = some xx from hx)).trans hy
  have qq15 : vv15 = .bool true := by obtain ⟨xx, hx, hy⟩ := hc.ok 15 _ rfl rfl; exact (Option.some.inj (show some vv15 = some xx from hx)).trans hy
  have BZ := hc.bel
  clear hc
  have Nt := Ft.out.on BZ
  have Na := Fa.out.on BZ
  have Nb := Fb.out.on BZ
  have Nm := Fm.out.on BZ
  have Nx := Fx.out.on BZ
  have NB := bel_tr BW.out BZ
  clear BW BZ Ft Fa Fb Fm Fx
  subst qq0 qq1 qq2 qq3 qq4 qq5 qq6 qq7 qq8 qq9 qq10 qq11 qq12 qq13 qq14 qq15
  simp only [List.map_cons, List.map_nil, over, Act.put, List.setIfInBounds_toArray, List.set_cons_zero, List.set_cons_succ]
  refine wpAnyH_done (by kernel_rfl) ?_ _
  refine NoPanic.normal ?_
  have Ft := Lib.hid Nt
  have Fa := Lib.hid Na
  have Fb := Lib.hid Nb
  have Fm := Lib.hid Nm
  have Fx := Lib.hid Nx
  have BW := Lib.hid NB
  clear NB Nt Na Nb Nm Nx
  have Lx := Fx.out.lt
  have cx0 := Fx.out.c0
  have cx1 := Fx.out.c1
  have cx2 := Fx.out.c2
  have cx3 := Fx.out.c3
  have fx0 : y2.frozen? ⟨gx, 0, none⟩ = false := Fx.out.frozen 0
  have fx1 : y2.frozen? ⟨gx, 1, none⟩ = false := Fx.out.frozen 1
  have fx2 : y2.frozen? ⟨gx, 2, none⟩ = false := Fx.out.frozen 2
  have fx3 : y2.frozen? ⟨gx, 3, none⟩ = false := Fx.out.frozen 3
  go_wp2_with fail
  clear Lx cx0 cx1 cx2 cx3 fx0 fx1 fx2 fx3
  generalize hW3 : ((((y2.setCell ⟨gx, 0, none⟩ (.int .u64 0)).setCell ⟨gx, 1, none⟩ (.int .u64 0)).setCell ⟨gx, 2, none⟩ (.int .u64 0)).setCell ⟨gx, 3, none⟩ (.int .u64 0)) = W3 at *
  have Nt := at_of hW3 ((Ft.out).far4 Dtx _ _ _ _)
  have Na := at_of hW3 ((Fa.out).far4 Dax _ _ _ _)
  have Nb := at_of hW3 ((Fb.out).far4 Dbx _ _ _ _)
  have Nm := at_of hW3 ((Fm.out).far4 Dmx _ _ _ _)
  have Nx := at_of hW3 ((Fx.out).put4 _ _ _ _)
  have NB := gr_of hW3 (((((BW.out).setCell Ex _).setCell Ex _).setCell Ex _).setCell Ex _)
  clear hW3 BW Ft Fa Fb Fm Fx
  have Ft := Lib.hid Nt
  have Fa := Lib.hid Na
  have Fb := Lib.hid Nb
  have Fm := Lib.hid Nm
  have Fx := Lib.hid Nx
  have BW := Lib.hid NB
  clear NB Nt Na Nb Nm Nx
  have Lx := Fx.out.lt
  have cx0 := Fx.out.c0
  have cx1 := Fx.out.c1
  have cx2 := Fx.out.c2
  have cx3 := Fx.out.c3
  refine bodyPost_ret (v := .tuple #[.agg #[.int .u64 0, .int .u64 0, .int .u64 0, .int .u64 0], .int .i64 1]) (by simp [results, Try.results41, go_sem, *]) rfl ⟨rfl, BW.out⟩

set_option maxRecDepth 100000 in
set_option maxHeartbeats 8000000 in
theorem with_bad2 (A B M Z : Nat) (fv : Value) (k j i : Int)
    (hk : 0 < k)
    (hj : j < 0)
    (hi : 0 ≤ i)
    (cO : ∀ w, Calls Try.prog 26 #[.int .u64 1] w fun e w' => e = .returned (num Z) ∧ Below w.heap.size w w')
    (ck : ∀ w, Calls Try.prog 46 #[num M, num Z] w fun e w' => e = .returned (.int .i64 k) ∧ Below w.heap.size w w')
    (cj : ∀ w, Calls Try.prog 46 #[num A, num M] w fun e w' => e = .returned (.int .i64 j) ∧ Below w.heap.size w w')
    (ci : ∀ w, Calls Try.prog 46 #[num B, num M] w fun e w' => e = .returned (.int .i64 i) ∧ Below w.heap.size w w')
    (w : World) : Calls Try.prog 41 #[.agg #[fv], num A, num B, num M] w fun e w' => e = .returned (.tuple #[.agg #[.int .u64 0, .int .u64 0, .int .u64 0, .int .u64 0], .int .i64 1]) ∧ Below w.heap.size w w' := by
  have HcO := Lib.hid cO
  have Hck := Lib.hid ck
  have Hcj := Lib.hid cj
  have Hci := Lib.hid ci
  clear cO ck cj ci
  go_enter Try.func41, Try.ntmps41
  go_wp2_with fail
  have BW := Lib.hid (Below.refl w.heap.size w)
  have Ex : w.heap.size ≤ w.heap.size + 1 + 1 + 1 + 1 := by have := BW.out.size; omega
  have Dtx : w.heap.size ≠ w.heap.size + 1 + 1 + 1 + 1 := by omega
  have Dax : w.heap.size + 1 ≠ w.heap.size + 1 + 1 + 1 + 1 := by omega
  have Dbx : w.heap.size + 1 + 1 ≠ w.heap.size + 1 + 1 + 1 + 1 := by omega
  have Dmx : w.heap.size + 1 + 1 + 1 ≠ w.heap.size + 1 + 1 + 1 + 1 := by omega
  generalize hW1 : (((((w.alloc (.cells #[fv] 71)).alloc (.cells #[.int .u64 (wd A 0 : Nat), .int .u64 (wd A 1 : Nat), .int .u64 (wd A 2 : Nat), .int .u64 (wd A 3 : Nat)] 24)).alloc (.cells #[.int .u64 (wd B 0 : Nat), .int .u64 (wd B 1 : Nat), .int .u64 (wd B 2 : Nat), .int .u64 (wd B 3 : Nat)] 24)).alloc (.cells #[.int .u64 (wd M 0 : Nat), .int .u64 (wd M 1 : Nat), .int .u64 (wd M 2 : Nat), .int .u64 (wd M 3 : Nat)] 24)).alloc (.cells #[.int .u64 0, .int .u64 0, .int .u64 0, .int .u64 0] 24)) = W1 at *
  have Nt : At W1 (w.heap.size) _ _ := at_of hW1 (((((At.at_ _ _ _ _ (by simp)).alloc _).alloc _).alloc _).alloc _)
  have Na : At W1 (w.heap.size + 1) _ _ := at_of hW1 ((((At.at_ _ _ _ _ (by simp)).alloc _).alloc _).alloc _)
  have Nb : At W1 (w.heap.size + 1 + 1) _ _ := at_of hW1 (((At.at_ _ _ _ _ (by simp)).alloc _).alloc _)
  have Nm : At W1 (w.heap.size + 1 + 1 + 1) _ _ := at_of hW1 ((At.at_ _ _ _ _ (by simp)).alloc _)
  have Nx : At W1 (w.heap.size + 1 + 1 + 1 + 1) _ _ := at_of hW1 (At.at_ _ _ _ _ (by simp))
  have NB := gr_of hW1 (gr_alloc (gr_alloc (gr_alloc (gr_alloc (gr_alloc BW.out _) _) _) _) _)
  clear hW1 BW 
  generalize w.heap.size + 1 + 1 + 1 + 1 = gx at *
  generalize w.heap.size + 1 + 1 + 1 = gm at *
  generalize w.heap.size + 1 + 1 = gb at *
  generalize w.heap.size + 1 = ga at *
  obtain ⟨gt, hg0⟩ : ∃ g, g = w.heap.size := ⟨_, rfl⟩
  rw [← hg0] at Nt ⊢
  rw [← hg0] at Dtx
  clear hg0
  have Ft := Lib.hid Nt
  have Fa := Lib.hid Na
  have Fb := Lib.hid Nb
  have Fm := Lib.hid Nm
  have Fx := Lib.hid Nx
  have BW := Lib.hid NB
  clear NB Nt Na Nb Nm Nx
  try simp only [List.append_eq, List.cons_append, List.nil_append]
  refine wp_region_noPanic ?_
  refine wp_region_held_drew (S := fun w' => At w' gm 24 #[.int .u64 (wd M 0 : Nat), .int .u64 (wd M 1 : Nat), .int .u64 (wd M 2 : Nat), .int .u64 (wd M 3 : Nat)] ∧ At w' ga 24 #[.int .u64 (wd A 0 : Nat), .int .u64 (wd A 1 : Nat), .int .u64 (wd A 2 : Nat), .int .u64 (wd A 3 : Nat)] ∧ At w' gb 24 #[.int .u64 (wd B 0 : Nat), .int .u64 (wd B 1 : Nat), .int .u64 (wd B 2 : Nat), .int .u64 (wd B 3 : Nat)]) (by kernel_rfl) (⟨Fm.out.drew, Fa.out.drew, Fb.out.drew⟩) (fun _ => ?_)
  refine wpAnyH_cores (fuel := 0) (⟨0, 10, [], Kind.val (.agg #[.int .u64 (wd M 0 : Nat), .int .u64 (wd M 1 : Nat), .int .u64 (wd M 2 : Nat), .int .u64 (wd M 3 : Nat)]), true⟩ :: ⟨1, 11, [0], Kind.val (.agg #[.int .u64 (wd Z 0 : Nat), .int .u64 (wd Z 1 : Nat), .int .u64 (wd Z 2 : Nat), .int .u64 (wd Z 3 : Nat)]), false⟩ :: ⟨2, 12, [0, 1], Kind.val (.int .i64 k), false⟩ :: ⟨3, 13, [2], Kind.val (.bool false), true⟩ :: ⟨4, 14, [3], Kind.val (.bool false), true⟩ :: ⟨5, 15, [4], Kind.val (.agg #[.int .u64 (wd A 0 : Nat), .int .u64 (wd A 1 : Nat), .int .u64 (wd A 2 : Nat), .int .u64 (wd A 3 : Nat)]), true⟩ :: ⟨6, 16, [4, 5], Kind.val (.agg #[.int .u64 (wd M 0 : Nat), .int .u64 (wd M 1 : Nat), .int .u64 (wd M 2 : Nat), .int .u64 (wd M 3 : Nat)]), true⟩ :: ⟨7, 17, [4, 5, 6], Kind.val (.int .i64 j), false⟩ :: ⟨8, 18, [4, 7], Kind.val (.bool false), true⟩ :: ⟨9, 19, [4, 8], Kind.val (.bool false), true⟩ :: ⟨10, 20, [9], Kind.val (.bool false), true⟩ :: ⟨11, 21, [10], Kind.val (.agg #[.int .u64 (wd B 0 : Nat), .int .u64 (wd B 1 : Nat), .int .u64 (wd B 2 : Nat), .int .u64 (wd B 3 : Nat)]), true⟩ :: ⟨12, 22, [10, 11], Kind.val (.agg #[.int .u64 (wd M 0 : Nat), .int .u64 (wd M 1 : Nat), .int .u64 (wd M 2 : Nat), .int .u64 (wd M 3 : Nat)]), true⟩ :: ⟨13, 23, [10, 11, 12], Kind.val (.int .i64 i), false⟩ :: ⟨14, 24, [10, 13], Kind.val (.bool true), true⟩ :: ⟨15, 25, [10, 14], Kind.val (.bool true), true⟩ :: []) _ _ W1 _ ?_ ?_ ?_ ?_ ?_ ?_ ?_ ?_ ?_ ?_ ?_
  · rfl
  · kernel_rfl
  · exact of_decide_eq_true (by kernel_rfl)
  · exact all_cons ⟨_, by rfl, by rfl⟩ (all_cons ⟨_, by rfl, by rfl⟩ (all_cons ⟨_, by rfl, by rfl⟩ (all_cons ⟨_, by rfl, by rfl⟩ (all_cons ⟨_, by rfl, by rfl⟩ (all_cons ⟨_, by rfl, by rfl⟩ (all_cons ⟨_, by rfl, by rfl⟩ (all_cons ⟨_, by rfl, by rfl⟩ (all_cons ⟨_, by rfl, by rfl⟩ (all_cons ⟨_, by rfl, by rfl⟩ (all_cons ⟨_, by rfl, by rfl⟩ (all_cons ⟨_, by rfl, by rfl⟩ (all_cons ⟨_, by rfl, by rfl⟩ (all_cons ⟨_, by rfl, by rfl⟩ (all_cons ⟨_, by rfl, by rfl⟩ (all_cons ⟨_, by rfl, by rfl⟩ (all_nil))))))))))))))))
  · exact fun _ hb => ⟨Fm.out.on hb, Fa.out.on hb, Fb.out.on hb⟩
  · exact (Below.refl _ _).drew
  · kernel_rfl
  · exact fun _ _ _ _ _ h => h
  · refine all_cons ?_ (all_cons ?_ (all_cons ?_ (all_cons ?_ (all_cons ?_ (all_cons ?_ (all_cons ?_ (all_cons ?_ (all_cons ?_ (all_cons ?_ (all_cons ?_ (all_cons ?_ (all_cons ?_ (all_cons ?_ (all_cons ?_ (all_cons ?_ (all_nil))))))))))))))))
    · exact coreG_loadP _ _ _ _ _ _ gm _ _ _ _ (by rfl) (by rfl) (wants_none) (known_old 7 _ (of_decide_eq_true (by rfl)) (by rfl)) (fun _ hs => hs.1)
    · exact core_pureAs _ (by rfl)
    · exact core_pureAs _ (by rfl)
    · exact coreG_bin _ _ _ _ _ _ _ _ _ _ _ _ _ (by rfl) (by rfl) (wants_none) (known_core 2 12 _ _ (of_decide_eq_true (by rfl)) (by rfl) (by rfl) (by rfl)) (known_const _) ((fun ρ w hx hy => by simp only [execOp, hx, hy]; simp [go_sem]; exact hk))
    · exact coreG_move _ _ _ _ _ _ _ (by rfl) (by rfl) (wants_none) (known_core 3 13 _ _ (of_decide_eq_true (by rfl)) (by rfl) (by rfl) (by rfl))
    · exact coreG_loadP _ _ _ _ _ _ ga _ _ _ _ (by rfl) (by rfl) (wants_core 4 14 4 _ _ _ (by rfl) (by rfl) (by rfl) (known_core 4 14 _ _ (of_decide_eq_true (by rfl)) (by rfl) (by rfl) (by rfl)) _ (by rfl)) (known_old 5 _ (of_decide_eq_true (by rfl)) (by rfl)) (fun _ hs => hs.2.1)
    · exact coreG_loadP _ _ _ _ _ _ gm _ _ _ _ (by rfl) (by rfl) (wants_core 4 14 4 _ _ _ (by rfl) (by rfl) (by rfl) (known_core 4 14 _ _ (of_decide_eq_true (by rfl)) (by rfl) (by rfl) (by rfl)) _ (by rfl)) (known_old 7 _ (of_decide_eq_true (by rfl)) (by rfl)) (fun _ hs => hs.1)
    · exact core_pureAs _ (by rfl)
    · exact coreG_bin _ _ _ _ _ _ _ _ _ _ _ _ _ (by rfl) (by rfl) (wants_core 4 14 4 _ _ _ (by rfl) (by rfl) (by rfl) (known_core 4 14 _ _ (of_decide_eq_true (by rfl)) (by rfl) (by rfl) (by rfl)) _ (by rfl)) (known_core 7 17 _ _ (of_decide_eq_true (by rfl)) (by rfl) (by rfl) (by rfl)) (known_const _) ((fun ρ w hx hy => by simp only [execOp, hx, hy]; simp [go_sem]; exact hj))
    · exact coreG_pick _ _ _ _ _ _ _ _ _ _ _ _ (by rfl) (by rfl) (wants_none) (known_core 4 14 _ _ (of_decide_eq_true (by rfl)) (by rfl) (by rfl) (by rfl)) (known_const _) (known_core 8 18 _ _ (of_decide_eq_true (by rfl)) (by rfl) (by rfl) (by rfl)) (by rfl)
    · exact coreG_move _ _ _ _ _ _ _ (by rfl) (by rfl) (wants_none) (known_core 9 19 _ _ (of_decide_eq_true (by rfl)) (by rfl) (by rfl) (by rfl))
    · exact coreG_loadP _ _ _ _ _ _ gb _ _ _ _ (by rfl) (by rfl) (wants_core 10 20 10 _ _ _ (by rfl) (by rfl) (by rfl) (known_core 10 20 _ _ (of_decide_eq_true (by rfl)) (by rfl) (by rfl) (by rfl)) _ (by rfl)) (known_old 6 _ (of_decide_eq_true (by rfl)) (by rfl)) (fun _ hs => hs.2.2)
    · exact coreG_loadP _ _ _ _ _ _ gm _ _ _ _ (by rfl) (by rfl) (wants_core 10 20 10 _ _ _ (by rfl) (by rfl) (by rfl) (known_core 10 20 _ _ (of_decide_eq_true (by rfl)) (by rfl) (by rfl) (by rfl)) _ (by rfl)) (known_old 7 _ (of_decide_eq_true (by rfl)) (by rfl)) (fun _ hs => hs.1)
    · exact core_pureAs _ (by rfl)
    · exact coreG_bin _ _ _ _ _ _ _ _ _ _ _ _ _ (by rfl) (by rfl) (wants_core 10 20 10 _ _ _ (by rfl) (by rfl) (by rfl) (known_core 10 20 _ _ (of_decide_eq_true (by rfl)) (by rfl) (by rfl) (by rfl)) _ (by rfl)) (known_core 13 23 _ _ (of_decide_eq_true (by rfl)) (by rfl) (by rfl) (by rfl)) (known_const _) ((fun ρ w hx hy => by simp only [execOp, hx, hy]; simp [go_sem]; exact hi))
    · exact coreG_pick _ _ _ _ _ _ _ _ _ _ _ _ (by rfl) (by rfl) (wants_none) (known_core 10 20 _ _ (of_decide_eq_true (by rfl)) (by rfl) (by rfl) (by rfl)) (known_const _) (known_core 14 24 _ _ (of_decide_eq_true (by rfl)) (by rfl) (by rfl) (by rfl)) (by rfl)
  · refine all_cons ?_ (all_cons ?_ (all_cons ?_ (all_cons ?_ (all_cons ?_ (all_cons ?_ (all_cons ?_ (all_cons ?_ (all_cons ?_ (all_cons ?_ (all_cons ?_ (all_cons ?_ (all_cons ?_ (all_cons ?_ (all_cons ?_ (all_cons ?_ (all_nil))))))))))))))))
    · exact core_stepAs _ (by rfl)
    · exact fun _ => coreG_call _ 26 _ _ [.const (.int .u64 1)] _ _ _ _ _ _ _ (by rfl) Try.func26 (by kernel_rfl) (by rfl) (by rfl) (wants_none) (.cons (known_const _) .nil) (HcO.out)
    · exact fun _ => coreG_call _ 46 _ _ [.tmp 10, .tmp 11] _ _ _ _ _ _ _ (by rfl) Try.func46 (by kernel_rfl) (by rfl) (by rfl) (wants_none) (.cons (known_core 0 10 _ _ (of_decide_eq_true (by rfl)) (by rfl) (by rfl) (by rfl)) (.cons (known_core 1 11 _ _ (of_decide_eq_true (by rfl)) (by rfl) (by rfl) (by rfl)) .nil)) (Hck.out)
    · exact core_stepAs _ (by rfl)
    · exact core_stepAs _ (by rfl)
    · exact core_stepAs _ (by rfl)
    · exact core_stepAs _ (by rfl)
    · exact fun _ => coreG_call _ 46 _ _ [.tmp 15, .tmp 16] _ _ _ _ _ _ _ (by rfl) Try.func46 (by kernel_rfl) (by rfl) (by rfl) (wants_core 4 14 4 _ _ _ (by rfl) (by rfl) (by rfl) (known_core 4 14 _ _ (of_decide_eq_true (by rfl)) (by rfl) (by rfl) (by rfl)) _ (by rfl)) (.cons (known_core 5 15 _ _ (of_decide_eq_true (by rfl)) (by rfl) (by rfl) (by rfl)) (.cons (known_core 6 16 _ _ (of_decide_eq_true (by rfl)) (by rfl) (by rfl) (by rfl)) .nil)) (Hcj.out)
    · exact core_stepAs _ (by rfl)
    · exact core_stepAs _ (by rfl)
    · exact core_stepAs _ (by rfl)
    · exact core_stepAs _ (by rfl)
    · exact core_stepAs _ (by rfl)
    · exact fun _ => coreG_call _ 46 _ _ [.tmp 21, .tmp 22] _ _ _ _ _ _ _ (by rfl) Try.func46 (by kernel_rfl) (by rfl) (by rfl) (wants_core 10 20 10 _ _ _ (by rfl) (by rfl) (by rfl) (known_core 10 20 _ _ (of_decide_eq_true (by rfl)) (by rfl) (by rfl) (by rfl)) _ (by rfl)) (.cons (known_core 11 21 _ _ (of_decide_eq_true (by rfl)) (by rfl) (by rfl) (by rfl)) (.cons (known_core 12 22 _ _ (of_decide_eq_true (by rfl)) (by rfl) (by rfl) (by rfl)) .nil)) (Hci.out)
    · exact core_stepAs _ (by rfl)
    · exact core_stepAs _ (by rfl)
  intro vs y2 hc
  obtain ⟨vv0, vv1, vv2, vv3, vv4, vv5, vv6, vv7, vv8, vv9, vv10, vv11, vv12, vv13, vv14, vv15, rfl⟩ := len16 vs hc.lv
  have qq0 : vv0 = .agg #[.int .u64 (wd M 0 : Nat), .int .u64 (wd M 1 : Nat), .int .u64 (wd M 2 : Nat), .int .u64 (wd M 3 : Nat)] := by obtain ⟨xx, hx, hy⟩ := hc.ok 0 _ rfl rfl; exact (Option.some.inj (show some vv0 = some xx from hx)).trans hy
  have qq1 : vv1 = .agg #[.int .u64 (wd Z 0 : Nat), .int .u64 (wd Z 1 : Nat), .int .u64 (wd Z 2 : Nat), .int .u64 (wd Z 3 : Nat)] := by obtain ⟨xx, hx, hy⟩ := hc.ok 1 _ rfl rfl; exact (Option.some.inj (show some vv1 = some xx from hx)).trans hy
  have qq2 : vv2 = .int .i64 k := by obtain ⟨xx, hx, hy⟩ := hc.ok 2 _ rfl rfl; exact (Option.some.inj (show some vv2 = some xx from hx)).trans hy
  have qq3 : vv3 = .bool false := by obtain ⟨xx, hx, hy⟩ := hc.ok 3 _ rfl rfl; exact (Option.some.inj (show some vv3 = some xx from hx)).trans hy
  have qq4 : vv4 = .bool false := by obtain ⟨xx, hx, hy⟩ := hc.ok 4 _ rfl rfl; exact (Option.some.inj (show some vv4 = some xx from hx)).trans hy
  have qq5 : vv5 = .agg #[.int .u64 (wd A 0 : Nat), .int .u64 (wd A 1 : Nat), .int .u64 (wd A 2 : Nat), .int .u64 (wd A 3 : Nat)] := by obtain ⟨xx, hx, hy⟩ := hc.ok 5 _ rfl rfl; exact (Option.some.inj (show some vv5 = some xx from hx)).trans hy
  have qq6 : vv6 = .agg #[.int .u64 (wd M 0 : Nat), .int .u64 (wd M 1 : Nat), .int .u64 (wd M 2 : Nat), .int .u64 (wd M 3 : Nat)] := by obtain ⟨xx, hx, hy⟩ := hc.ok 6 _ rfl rfl; exact (Option.some.inj (show some vv6 = some xx from hx)).trans hy
  have qq7 : vv7 = .int .i64 j := by obtain ⟨xx, hx, hy⟩ := hc.ok 7 _ rfl rfl; exact (Option.some.inj (show some vv7 = some xx from hx)).trans hy
  have qq8 : vv8 = .bool false := by obtain ⟨xx, hx, hy⟩ := hc.ok 8 _ rfl rfl; exact (Option.some.inj (show some vv8 = some xx from hx)).trans hy
  have qq9 : vv9 = .bool false := by obtain ⟨xx, hx, hy⟩ := hc.ok 9 _ rfl rfl; exact (Option.some.inj (show some vv9 = some xx from hx)).trans hy
  have qq10 : vv10 = .bool false := by obtain ⟨xx, hx, hy⟩ := hc.ok 10 _ rfl rfl; exact (Option.some.inj (show some vv10 = some xx from hx)).trans hy
  have qq11 : vv11 = .agg #[.int .u64 (wd B 0 : Nat), .int .u64 (wd B 1 : Nat), .int .u64 (wd B 2 : Nat), .int .u64 (wd B 3 : Nat)] := by obtain ⟨xx, hx, hy⟩ := hc.ok 11 _ rfl rfl; exact (Option.some.inj (show some vv11 = some xx from hx)).trans hy
  have qq12 : vv12 = .agg #[.int .u64 (wd M 0 : Nat), .int .u64 (wd M 1 : Nat), .int .u64 (wd M 2 : Nat), .int .u64 (wd M 3 : Nat)] := by obtain ⟨xx, hx, hy⟩ := hc.ok 12 _ rfl rfl; exact (Option.some.inj (show some vv12 = some xx from hx)).trans hy
  have qq13 : vv13 = .int .i64 i := by obtain ⟨xx, hx, hy⟩ := hc.ok 13 _ rfl rfl; exact (Option.some.inj (show some vv13 = some xx from hx)).trans hy
  have qq14 : vv14 = .bool true := by obtain ⟨xx, hx, hy⟩ := hc.ok 14 _ rfl rfl; exact (Option.some.inj (show some vv14 = some xx from hx)).trans hy
  have qq15 : vv15 = .bool true := by obtain ⟨xx, hx, hy⟩ := hc.ok 15 _ rfl rfl; exact (Option.some.inj (show some vv15 = some xx from hx)).trans hy
  have BZ := hc.bel
  clear hc
  have Nt := Ft.out.on BZ
  have Na := Fa.out.on BZ
  have Nb := Fb.out.on BZ
  have Nm := Fm.out.on BZ
  have Nx := Fx.out.on BZ
  have NB := bel_tr BW.out BZ
  clear BW BZ Ft Fa Fb Fm Fx
  subst qq0 qq1 qq2 qq3 qq4 qq5 qq6 qq7 qq8 qq9 qq10 qq11 qq12 qq13 qq14 qq15
  simp only [List.map_cons, List.map_nil, over, Act.put, List.setIfInBounds_toArray, List.set_cons_zero, List.set_cons_succ]
  refine wpAnyH_done (by kernel_rfl) ?_ _
  refine NoPanic.normal ?_
  have Ft := Lib.hid Nt
  have Fa := Lib.hid Na
  have Fb := Lib.hid Nb
  have Fm := Lib.hid Nm
  have Fx := Lib.hid Nx
  have BW := Lib.hid NB
  clear NB Nt Na Nb Nm Nx
  have Lx := Fx.out.lt
  have cx0 := Fx.out.c0
  have cx1 := Fx.out.c1
  have cx2 := Fx.out.c2
  have cx3 := Fx.out.c3
  have fx0 : y2.frozen? ⟨gx, 0, none⟩ = false := Fx.out.frozen 0
  have fx1 : y2.frozen? ⟨gx, 1, none⟩ = false := Fx.out.frozen 1
  have fx2 : y2.frozen? ⟨gx, 2, none⟩ = false := Fx.out.frozen 2
  have fx3 : y2.frozen? ⟨gx, 3, none⟩ = false := Fx.out.frozen 3
  go_wp2_with fail
  clear Lx cx0 cx1 cx2 cx3 fx0 fx1 fx2 fx3
  generalize hW3 : ((((y2.setCell ⟨gx, 0, none⟩ (.int .u64 0)).setCell ⟨gx, 1, none⟩ (.int .u64 0)).setCell ⟨gx, 2, none⟩ (.int .u64 0)).setCell ⟨gx, 3, none⟩ (.int .u64 0)) = W3 at *
  have Nt := at_of hW3 ((Ft.out).far4 Dtx _ _ _ _)
  have Na := at_of hW3 ((Fa.out).far4 Dax _ _ _ _)
  have Nb := at_of hW3 ((Fb.out).far4 Dbx _ _ _ _)
  have Nm := at_of hW3 ((Fm.out).far4 Dmx _ _ _ _)
  have Nx := at_of hW3 ((Fx.out).put4 _ _ _ _)
  have NB := gr_of hW3 (((((BW.out).setCell Ex _).setCell Ex _).setCell Ex _).setCell Ex _)
  clear hW3 BW Ft Fa Fb Fm Fx
  have Ft := Lib.hid Nt
  have Fa := Lib.hid Na
  have Fb := Lib.hid Nb
  have Fm := Lib.hid Nm
  have Fx := Lib.hid Nx
  have BW := Lib.hid NB
  clear NB Nt Na Nb Nm Nx
  have Lx := Fx.out.lt
  have cx0 := Fx.out.c0
  have cx1 := Fx.out.c1
  have cx2 := Fx.out.c2
  have cx3 := Fx.out.c3
  refine bodyPost_ret (v := .tuple #[.agg #[.int .u64 0, .int .u64 0, .int .u64 0, .int .u64 0], .int .i64 1]) (by simp [results, Try.results41, go_sem, *]) rfl ⟨rfl, BW.out⟩

set_option maxRecDepth 100000 in
set_option maxHeartbeats 8000000 in
theorem with_sum (A B M Z V : Nat) (k j i er : Int)
    (hk : 0 < k)
    (hj : j < 0)
    (hi : i < 0)
    (cO : ∀ w, Calls Try.prog 26 #[.int .u64 1] w fun e w' => e = .returned (num Z) ∧ Below w.heap.size w w')
    (ck : ∀ w, Calls Try.prog 46 #[num M, num Z] w fun e w' => e = .returned (.int .i64 k) ∧ Below w.heap.size w w')
    (cj : ∀ w, Calls Try.prog 46 #[num A, num M] w fun e w' => e = .returned (.int .i64 j) ∧ Below w.heap.size w w')
    (ci : ∀ w, Calls Try.prog 46 #[num B, num M] w fun e w' => e = .returned (.int .i64 i) ∧ Below w.heap.size w w')
    (cd : ∀ w, Calls Try.prog 40 #[num A, num B, num M] w fun e w' => e = .returned (.tuple #[num V, .int .i64 er]) ∧ Below w.heap.size w w')
    (w : World) : Calls Try.prog 41 #[.agg #[.func (.func 40) #[] #[]], num A, num B, num M] w fun e w' => e = .returned (.tuple #[num V, .int .i64 er]) ∧ Below w.heap.size w w' := by
  have HcO := Lib.hid cO
  have Hck := Lib.hid ck
  have Hcj := Lib.hid cj
  have Hci := Lib.hid ci
  have Hcd := Lib.hid cd
  clear cO ck cj ci cd
  go_enter Try.func41, Try.ntmps41
  go_wp2_with fail
  have BW := Lib.hid (Below.refl w.heap.size w)
  have Ex : w.heap.size ≤ w.heap.size + 1 + 1 + 1 + 1 := by have := BW.out.size; omega
  have Dtx : w.heap.size ≠ w.heap.size + 1 + 1 + 1 + 1 := by omega
  have Dax : w.heap.size + 1 ≠ w.heap.size + 1 + 1 + 1 + 1 := by omega
  have Dbx : w.heap.size + 1 + 1 ≠ w.heap.size + 1 + 1 + 1 + 1 := by omega
  have Dmx : w.heap.size + 1 + 1 + 1 ≠ w.heap.size + 1 + 1 + 1 + 1 := by omega
  generalize hW1 : (((((w.alloc (.cells #[.func (.func 40) #[] #[]] 71)).alloc (.cells #[.int .u64 (wd A 0 : Nat), .int .u64 (wd A 1 : Nat), .int .u64 (wd A 2 : Nat), .int .u64 (wd A 3 : Nat)] 24)).alloc (.cells #[.int .u64 (wd B 0 : Nat), .int .u64 (wd B 1 : Nat), .int .u64 (wd B 2 : Nat), .int .u64 (wd B 3 : Nat)] 24)).alloc (.cells #[.int .u64 (wd M 0 : Nat), .int .u64 (wd M 1 : Nat), .int .u64 (wd M 2 : Nat), .int .u64 (wd M 3 : Nat)] 24)).alloc (.cells #[.int .u64 0, .int .u64 0, .int .u64 0, .int .u64 0] 24)) = W1 at *
  have Nt : At W1 (w.heap.size) _ _ := at_of hW1 (((((At.at_ _ _ _ _ (by simp)).alloc _).alloc _).alloc _).alloc _)
  have Na : At W1 (w.heap.size + 1) _ _ := at_of hW1 ((((At.at_ _ _ _ _ (by simp)).alloc _).alloc _).alloc _)
  have Nb : At W1 (w.heap.size + 1 + 1) _ _ := at_of hW1 (((At.at_ _ _ _ _ (by simp)).alloc _).alloc _)
  have Nm : At W1 (w.heap.size + 1 + 1 + 1) _ _ := at_of hW1 ((At.at_ _ _ _ _ (by simp)).alloc _)
  have Nx : At W1 (w.heap.size + 1 + 1 + 1 + 1) _ _ := at_of hW1 (At.at_ _ _ _ _ (by simp))
  have NB := gr_of hW1 (gr_alloc (gr_alloc (gr_alloc (gr_alloc (gr_alloc BW.out _) _) _) _) _)
  clear hW1 BW 
  generalize w.heap.size + 1 + 1 + 1 + 1 = gx at *
  generalize w.heap.size + 1 + 1 + 1 = gm at *
  generalize w.heap.size + 1 + 1 = gb at *
  generalize w.heap.size + 1 = ga at *
  obtain ⟨gt, hg0⟩ : ∃ g, g = w.heap.size := ⟨_, rfl⟩
  rw [← hg0] at Nt ⊢
  rw [← hg0] at Dtx
  clear hg0
  have Ft := Lib.hid Nt
  have Fa := Lib.hid Na
  have Fb := Lib.hid Nb
  have Fm := Lib.hid Nm
  have Fx := Lib.hid Nx
  have BW := Lib.hid NB
  clear NB Nt Na Nb Nm Nx
  try simp only [List.append_eq, List.cons_append, List.nil_append]
  refine wp_region_noPanic ?_
  refine wp_region_held_drew (S := fun w' => At w' gm 24 #[.int .u64 (wd M 0 : Nat), .int .u64 (wd M 1 : Nat), .int .u64 (wd M 2 : Nat), .int .u64 (wd M 3 : Nat)] ∧ At w' ga 24 #[.int .u64 (wd A 0 : Nat), .int .u64 (wd A 1 : Nat), .int .u64 (wd A 2 : Nat), .int .u64 (wd A 3 : Nat)] ∧ At w' gb 24 #[.int .u64 (wd B 0 : Nat), .int .u64 (wd B 1 : Nat), .int .u64 (wd B 2 : Nat), .int .u64 (wd B 3 : Nat)]) (by kernel_rfl) (⟨Fm.out.drew, Fa.out.drew, Fb.out.drew⟩) (fun _ => ?_)
  refine wpAnyH_cores (fuel := 0) (⟨0, 10, [], Kind.val (.agg #[.int .u64 (wd M 0 : Nat), .int .u64 (wd M 1 : Nat), .int .u64 (wd M 2 : Nat), .int .u64 (wd M 3 : Nat)]), true⟩ :: ⟨1, 11, [0], Kind.val (.agg #[.int .u64 (wd Z 0 : Nat), .int .u64 (wd Z 1 : Nat), .int .u64 (wd Z 2 : Nat), .int .u64 (wd Z 3 : Nat)]), false⟩ :: ⟨2, 12, [0, 1], Kind.val (.int .i64 k), false⟩ :: ⟨3, 13, [2], Kind.val (.bool false), true⟩ :: ⟨4, 14, [3], Kind.val (.bool false), true⟩ :: ⟨5, 15, [4], Kind.val (.agg #[.int .u64 (wd A 0 : Nat), .int .u64 (wd A 1 : Nat), .int .u64 (wd A 2 : Nat), .int .u64 (wd A 3 : Nat)]), true⟩ :: ⟨6, 16, [4, 5], Kind.val (.agg #[.int .u64 (wd M 0 : Nat), .int .u64 (wd M 1 : Nat), .int .u64 (wd M 2 : Nat), .int .u64 (wd M 3 : Nat)]), true⟩ :: ⟨7, 17, [4, 5, 6], Kind.val (.int .i64 j), false⟩ :: ⟨8, 18, [4, 7], Kind.val (.bool false), true⟩ :: ⟨9, 19, [4, 8], Kind.val (.bool false), true⟩ :: ⟨10, 20, [9], Kind.val (.bool false), true⟩ :: ⟨11, 21, [10], Kind.val (.agg #[.int .u64 (wd B 0 : Nat), .int .u64 (wd B 1 : Nat), .int .u64 (wd B 2 : Nat), .int .u64 (wd B 3 : Nat)]), true⟩ :: ⟨12, 22, [10, 11], Kind.val (.agg #[.int .u64 (wd M 0 : Nat), .int .u64 (wd M 1 : Nat), .int .u64 (wd M 2 : Nat), .int .u64 (wd M 3 : Nat)]), true⟩ :: ⟨13, 23, [10, 11, 12], Kind.val (.int .i64 i), false⟩ :: ⟨14, 24, [10, 13], Kind.val (.bool false), true⟩ :: ⟨15, 25, [10, 14], Kind.val (.bool false), true⟩ :: []) _ _ W1 _ ?_ ?_ ?_ ?_ ?_ ?_ ?_ ?_ ?_ ?_ ?_
  · rfl
  · kernel_rfl
  · exact of_decide_eq_true (by kernel_rfl)
  · exact all_cons ⟨_, by rfl, by rfl⟩ (all_cons ⟨_, by rfl, by rfl⟩ (all_cons ⟨_, by rfl, by rfl⟩ (all_cons ⟨_, by rfl, by rfl⟩ (all_cons ⟨_, by rfl, by rfl⟩ (all_cons ⟨_, by rfl, by rfl⟩ (all_cons ⟨_, by rfl, by rfl⟩ (all_cons ⟨_, by rfl, by rfl⟩ (all_cons ⟨_, by rfl, by rfl⟩ (all_cons ⟨_, by rfl, by rfl⟩ (all_cons ⟨_, by rfl, by rfl⟩ (all_cons ⟨_, by rfl, by rfl⟩ (all_cons ⟨_, by rfl, by rfl⟩ (all_cons ⟨_, by rfl, by rfl⟩ (all_cons ⟨_, by rfl, by rfl⟩ (all_cons ⟨_, by rfl, by rfl⟩ (all_nil))))))))))))))))
  · exact fun _ hb => ⟨Fm.out.on hb, Fa.out.on hb, Fb.out.on hb⟩
  · exact (Below.refl _ _).drew
  · kernel_rfl
  · exact fun _ _ _ _ _ h => h
  · refine all_cons ?_ (all_cons ?_ (all_cons ?_ (all_cons ?_ (all_cons ?_ (all_cons ?_ (all_cons ?_ (all_cons ?_ (all_cons ?_ (all_cons ?_ (all_cons ?_ (all_cons ?_ (all_cons ?_ (all_cons ?_ (all_cons ?_ (all_cons ?_ (all_nil))))))))))))))))
    · exact coreG_loadP _ _ _ _ _ _ gm _ _ _ _ (by rfl) (by rfl) (wants_none) (known_old 7 _ (of_decide_eq_true (by rfl)) (by rfl)) (fun _ hs => hs.1)
    · exact core_pureAs _ (by rfl)
    · exact core_pureAs _ (by rfl)
    · exact coreG_bin _ _ _ _ _ _ _ _ _ _ _ _ _ (by rfl) (by rfl) (wants_none) (known_core 2 12 _ _ (of_decide_eq_true (by rfl)) (by rfl) (by rfl) (by rfl)) (known_const _) ((fun ρ w hx hy => by simp only [execOp, hx, hy]; simp [go_sem]; exact hk))
    · exact coreG_move _ _ _ _ _ _ _ (by rfl) (by rfl) (wants_none) (known_core 3 13 _ _ (of_decide_eq_true (by rfl)) (by rfl) (by rfl) (by rfl))
    · exact coreG_loadP _ _ _ _ _ _ ga _ _ _ _ (by rfl) (by rfl) (wants_core 4 14 4 _ _ _ (by rfl) (by rfl) (by rfl) (known_core 4 14 _ _ (of_decide_eq_true (by rfl)) (by rfl) (by rfl) (by rfl)) _ (by rfl)) (known_old 5 _ (of_decide_eq_true (by rfl)) (by rfl)) (fun _ hs => hs.2.1)
    · exact coreG_loadP _ _ _ _ _ _ gm _ _ _ _ (by rfl) (by rfl) (wants_core 4 14 4 _ _ _ (by rfl) (by rfl) (by rfl) (known_core 4 14 _ _ (of_decide_eq_true (by rfl)) (by rfl) (by rfl) (by rfl)) _ (by rfl)) (known_old 7 _ (of_decide_eq_true (by rfl)) (by rfl)) (fun _ hs => hs.1)
    · exact core_pureAs _ (by rfl)
    · exact coreG_bin _ _ _ _ _ _ _ _ _ _ _ _ _ (by rfl) (by rfl) (wants_core 4 14 4 _ _ _ (by rfl) (by rfl) (by rfl) (known_core 4 14 _ _ (of_decide_eq_true (by rfl)) (by rfl) (by rfl) (by rfl)) _ (by rfl)) (known_core 7 17 _ _ (of_decide_eq_true (by rfl)) (by rfl) (by rfl) (by rfl)) (known_const _) ((fun ρ w hx hy => by simp only [execOp, hx, hy]; simp [go_sem]; exact hj))
    · exact coreG_pick _ _ _ _ _ _ _ _ _ _ _ _ (by rfl) (by rfl) (wants_none) (known_core 4 14 _ _ (of_decide_eq_true (by rfl)) (by rfl) (by rfl) (by rfl)) (known_const _) (known_core 8 18 _ _ (of_decide_eq_true (by rfl)) (by rfl) (by rfl) (by rfl)) (by rfl)
    · exact coreG_move _ _ _ _ _ _ _ (by rfl) (by rfl) (wants_none) (known_core 9 19 _ _ (of_decide_eq_true (by rfl)) (by rfl) (by rfl) (by rfl))
    · exact coreG_loadP _ _ _ _ _ _ gb _ _ _ _ (by rfl) (by rfl) (wants_core 10 20 10 _ _ _ (by rfl) (by rfl) (by rfl) (known_core 10 20 _ _ (of_decide_eq_true (by rfl)) (by rfl) (by rfl) (by rfl)) _ (by rfl)) (known_old 6 _ (of_decide_eq_true (by rfl)) (by rfl)) (fun _ hs => hs.2.2)
    · exact coreG_loadP _ _ _ _ _ _ gm _ _ _ _ (by rfl) (by rfl) (wants_core 10 20 10 _ _ _ (by rfl) (by rfl) (by rfl) (known_core 10 20 _ _ (of_decide_eq_true (by rfl)) (by rfl) (by rfl) (by rfl)) _ (by rfl)) (known_old 7 _ (of_decide_eq_true (by rfl)) (by rfl)) (fun _ hs => hs.1)
    · exact core_pureAs _ (by rfl)
    · exact coreG_bin _ _ _ _ _ _ _ _ _ _ _ _ _ (by rfl) (by rfl) (wants_core 10 20 10 _ _ _ (by rfl) (by rfl) (by rfl) (known_core 10 20 _ _ (of_decide_eq_true (by rfl)) (by rfl) (by rfl) (by rfl)) _ (by rfl)) (known_core 13 23 _ _ (of_decide_eq_true (by rfl)) (by rfl) (by rfl) (by rfl)) (known_const _) ((fun ρ w hx hy => by simp only [execOp, hx, hy]; simp [go_sem]; exact hi))
    · exact coreG_pick _ _ _ _ _ _ _ _ _ _ _ _ (by rfl) (by rfl) (wants_none) (known_core 10 20 _ _ (of_decide_eq_true (by rfl)) (by rfl) (by rfl) (by rfl)) (known_const _) (known_core 14 24 _ _ (of_decide_eq_true (by rfl)) (by rfl) (by rfl) (by rfl)) (by rfl)
  · refine all_cons ?_ (all_cons ?_ (all_cons ?_ (all_cons ?_ (all_cons ?_ (all_cons ?_ (all_cons ?_ (all_cons ?_ (all_cons ?_ (all_cons ?_ (all_cons ?_ (all_cons ?_ (all_cons ?_ (all_cons ?_ (all_cons ?_ (all_cons ?_ (all_nil))))))))))))))))
    · exact core_stepAs _ (by rfl)
    · exact fun _ => coreG_call _ 26 _ _ [.const (.int .u64 1)] _ _ _ _ _ _ _ (by rfl) Try.func26 (by kernel_rfl) (by rfl) (by rfl) (wants_none) (.cons (known_const _) .nil) (HcO.out)
    · exact fun _ => coreG_call _ 46 _ _ [.tmp 10, .tmp 11] _ _ _ _ _ _ _ (by rfl) Try.func46 (by kernel_rfl) (by rfl) (by rfl) (wants_none) (.cons (known_core 0 10 _ _ (of_decide_eq_true (by rfl)) (by rfl) (by rfl) (by rfl)) (.cons (known_core 1 11 _ _ (of_decide_eq_true (by rfl)) (by rfl) (by rfl) (by rfl)) .nil)) (Hck.out)
    · exact core_stepAs _ (by rfl)
    · exact core_stepAs _ (by rfl)
    · exact core_stepAs _ (by rfl)
    · exact core_stepAs _ (by rfl)
    · exact fun _ => coreG_call _ 46 _ _ [.tmp 15, .tmp 16] _ _ _ _ _ _ _ (by rfl) Try.func46 (by kernel_rfl) (by rfl) (by rfl) (wants_core 4 14 4 _ _ _ (by rfl) (by rfl) (by rfl) (known_core 4 14 _ _ (of_decide_eq_true (by rfl)) (by rfl) (by rfl) (by rfl)) _ (by rfl)) (.cons (known_core 5 15 _ _ (of_decide_eq_true (by rfl)) (by rfl) (by rfl) (by rfl)) (.cons (known_core 6 16 _ _ (of_decide_eq_true (by rfl)) (by rfl) (by rfl) (by rfl)) .nil)) (Hcj.out)
    · exact core_stepAs _ (by rfl)
    · exact core_stepAs _ (by rfl)
    · exact core_stepAs _ (by rfl)
    · exact core_stepAs _ (by rfl)
    · exact core_stepAs _ (by rfl)
    · exact fun _ => coreG_call _ 46 _ _ [.tmp 21, .tmp 22] _ _ _ _ _ _ _ (by rfl) Try.func46 (by kernel_rfl) (by rfl) (by rfl) (wants_core 10 20 10 _ _ _ (by rfl) (by rfl) (by rfl) (known_core 10 20 _ _ (of_decide_eq_true (by rfl)) (by rfl) (by rfl) (by rfl)) _ (by rfl)) (.cons (known_core 11 21 _ _ (of_decide_eq_true (by rfl)) (by rfl) (by rfl) (by rfl)) (.cons (known_core 12 22 _ _ (of_decide_eq_true (by rfl)) (by rfl) (by rfl) (by rfl)) .nil)) (Hci.out)
    · exact core_stepAs _ (by rfl)
    · exact core_stepAs _ (by rfl)
  intro vs y2 hc
  obtain ⟨vv0, vv1, vv2, vv3, vv4, vv5, vv6, vv7, vv8, vv9, vv10, vv11, vv12, vv13, vv14, vv15, rfl⟩ := len16 vs hc.lv
  have qq0 : vv0 = .agg #[.int .u64 (wd M 0 : Nat), .int .u64 (wd M 1 : Nat), .int .u64 (wd M 2 : Nat), .int .u64 (wd M 3 : Nat)] := by obtain ⟨xx, hx, hy⟩ := hc.ok 0 _ rfl rfl; exact (Option.some.inj (show some vv0 = some xx from hx)).trans hy
  have qq1 : vv1 = .agg #[.int .u64 (wd Z 0 : Nat), .int .u64 (wd Z 1 : Nat), .int .u64 (wd Z 2 : Nat), .int .u64 (wd Z 3 : Nat)] := by obtain ⟨xx, hx, hy⟩ := hc.ok 1 _ rfl rfl; exact (Option.some.inj (show some vv1 = some xx from hx)).trans hy
  have qq2 : vv2 = .int .i64 k := by obtain ⟨xx, hx, hy⟩ := hc.ok 2 _ rfl rfl; exact (Option.some.inj (show some vv2 = some xx from hx)).trans hy
  have qq3 : vv3 = .bool false := by obtain ⟨xx, hx, hy⟩ := hc.ok 3 _ rfl rfl; exact (Option.some.inj (show some vv3 = some xx from hx)).trans hy
  have qq4 : vv4 = .bool false := by obtain ⟨xx, hx, hy⟩ := hc.ok 4 _ rfl rfl; exact (Option.some.inj (show some vv4 = some xx from hx)).trans hy
  have qq5 : vv5 = .agg #[.int .u64 (wd A 0 : Nat), .int .u64 (wd A 1 : Nat), .int .u64 (wd A 2 : Nat), .int .u64 (wd A 3 : Nat)] := by obtain ⟨xx, hx, hy⟩ := hc.ok 5 _ rfl rfl; exact (Option.some.inj (show some vv5 = some xx from hx)).trans hy
  have qq6 : vv6 = .agg #[.int .u64 (wd M 0 : Nat), .int .u64 (wd M 1 : Nat), .int .u64 (wd M 2 : Nat), .int .u64 (wd M 3 : Nat)] := by obtain ⟨xx, hx, hy⟩ := hc.ok 6 _ rfl rfl; exact (Option.some.inj (show some vv6 = some xx from hx)).trans hy
  have qq7 : vv7 = .int .i64 j := by obtain ⟨xx, hx, hy⟩ := hc.ok 7 _ rfl rfl; exact (Option.some.inj (show some vv7 = some xx from hx)).trans hy
  have qq8 : vv8 = .bool false := by obtain ⟨xx, hx, hy⟩ := hc.ok 8 _ rfl rfl; exact (Option.some.inj (show some vv8 = some xx from hx)).trans hy
  have qq9 : vv9 = .bool false := by obtain ⟨xx, hx, hy⟩ := hc.ok 9 _ rfl rfl; exact (Option.some.inj (show some vv9 = some xx from hx)).trans hy
  have qq10 : vv10 = .bool false := by obtain ⟨xx, hx, hy⟩ := hc.ok 10 _ rfl rfl; exact (Option.some.inj (show some vv10 = some xx from hx)).trans hy
  have qq11 : vv11 = .agg #[.int .u64 (wd B 0 : Nat), .int .u64 (wd B 1 : Nat), .int .u64 (wd B 2 : Nat), .int .u64 (wd B 3 : Nat)] := by obtain ⟨xx, hx, hy⟩ := hc.ok 11 _ rfl rfl; exact (Option.some.inj (show some vv11 = some xx from hx)).trans hy
  have qq12 : vv12 = .agg #[.int .u64 (wd M 0 : Nat), .int .u64 (wd M 1 : Nat), .int .u64 (wd M 2 : Nat), .int .u64 (wd M 3 : Nat)] := by obtain ⟨xx, hx, hy⟩ := hc.ok 12 _ rfl rfl; exact (Option.some.inj (show some vv12 = some xx from hx)).trans hy
  have qq13 : vv13 = .int .i64 i := by obtain ⟨xx, hx, hy⟩ := hc.ok 13 _ rfl rfl; exact (Option.some.inj (show some vv13 = some xx from hx)).trans hy
  have qq14 : vv14 = .bool false := by obtain ⟨xx, hx, hy⟩ := hc.ok 14 _ rfl rfl; exact (Option.some.inj (show some vv14 = some xx from hx)).trans hy
  have qq15 : vv15 = .bool false := by obtain ⟨xx, hx, hy⟩ := hc.ok 15 _ rfl rfl; exact (Option.some.inj (show some vv15 = some xx from hx)).trans hy
  have BZ := hc.bel
  clear hc
  have Nt := Ft.out.on BZ
  have Na := Fa.out.on BZ
  have Nb := Fb.out.on BZ
  have Nm := Fm.out.on BZ
  have Nx := Fx.out.on BZ
  have NB := bel_tr BW.out BZ
  clear BW BZ Ft Fa Fb Fm Fx
  subst qq0 qq1 qq2 qq3 qq4 qq5 qq6 qq7 qq8 qq9 qq10 qq11 qq12 qq13 qq14 qq15
  simp only [List.map_cons, List.map_nil, over, Act.put, List.setIfInBounds_toArray, List.set_cons_zero, List.set_cons_succ]
  refine wpAnyH_done (by kernel_rfl) ?_ _
  refine NoPanic.normal ?_
  have Ft := Lib.hid Nt
  have Fa := Lib.hid Na
  have Fb := Lib.hid Nb
  have Fm := Lib.hid Nm
  have Fx := Lib.hid Nx
  have BW := Lib.hid NB
  clear NB Nt Na Nb Nm Nx
  have Lt := Ft.out.lt
  have ct0 : y2.cell? ⟨gt, 0, none⟩ = some (.func (.func 40) #[] #[]) := Ft.out.cell 0
  have La := Fa.out.lt
  have ca0 := Fa.out.c0
  have ca1 := Fa.out.c1
  have ca2 := Fa.out.c2
  have ca3 := Fa.out.c3
  have Lb := Fb.out.lt
  have cb0 := Fb.out.c0
  have cb1 := Fb.out.c1
  have cb2 := Fb.out.c2
  have cb3 := Fb.out.c3
  have Lm := Fm.out.lt
  have cm0 := Fm.out.c0
  have cm1 := Fm.out.c1
  have cm2 := Fm.out.c2
  have cm3 := Fm.out.c3
  go_wp2_with fail
  clear Lt ct0 La ca0 ca1 ca2 ca3 Lb cb0 cb1 cb2 cb3 Lm cm0 cm1 cm2 cm3
  refine (Hcd.out _).mono ?_
  rintro e v3 ⟨rfl, z3⟩
  have Nt := Lib.hid (Ft.out.on z3)
  have Na := Lib.hid (Fa.out.on z3)
  have Nb := Lib.hid (Fb.out.on z3)
  have Nm := Lib.hid (Fm.out.on z3)
  have Nx := Lib.hid (Fx.out.on z3)
  have NB := Lib.hid (bel_tr BW.out z3)
  clear BW z3 Ft Fa Fb Fm Fx
  have Ft := Nt
  have Fa := Na
  have Fb := Nb
  have Fm := Nm
  have Fx := Nx
  have BW := NB
  clear NB Nt Na Nb Nm Nx
  have Lx := Fx.out.lt
  have cx0 := Fx.out.c0
  have cx1 := Fx.out.c1
  have cx2 := Fx.out.c2
  have cx3 := Fx.out.c3
  have fx0 : v3.frozen? ⟨gx, 0, none⟩ = false := Fx.out.frozen 0
  have fx1 : v3.frozen? ⟨gx, 1, none⟩ = false := Fx.out.frozen 1
  have fx2 : v3.frozen? ⟨gx, 2, none⟩ = false := Fx.out.frozen 2
  have fx3 : v3.frozen? ⟨gx, 3, none⟩ = false := Fx.out.frozen 3
  go_wp2_with fail
  clear Lx cx0 cx1 cx2 cx3 fx0 fx1 fx2 fx3
  generalize hW4 : ((((v3.setCell ⟨gx, 0, none⟩ (.int .u64 (wd V 0 : Nat))).setCell ⟨gx, 1, none⟩ (.int .u64 (wd V 1 : Nat))).setCell ⟨gx, 2, none⟩ (.int .u64 (wd V 2 : Nat))).setCell ⟨gx, 3, none⟩ (.int .u64 (wd V 3 : Nat))) = W4 at *
  have Nt := at_of hW4 ((Ft.out).far4 Dtx _ _ _ _)
  have Na := at_of hW4 ((Fa.out).far4 Dax _ _ _ _)
  have Nb := at_of hW4 ((Fb.out).far4 Dbx _ _ _ _)
  have Nm := at_of hW4 ((Fm.out).far4 Dmx _ _ _ _)
  have Nx := at_of hW4 ((Fx.out).put4 _ _ _ _)
  have NB := gr_of hW4 (((((BW.out).setCell Ex _).setCell Ex _).setCell Ex _).setCell Ex _)
  clear hW4 BW Ft Fa Fb Fm Fx
  have Ft := Lib.hid Nt
  have Fa := Lib.hid Na
  have Fb := Lib.hid Nb
  have Fm := Lib.hid Nm
  have Fx := Lib.hid Nx
  have BW := Lib.hid NB
  clear NB Nt Na Nb Nm Nx
  have Lx := Fx.out.lt
  have cx0 := Fx.out.c0
  have cx1 := Fx.out.c1
  have cx2 := Fx.out.c2
  have cx3 := Fx.out.c3
  refine bodyPost_ret (v := .tuple #[num V, .int .i64 er]) (by simp [results, Try.results41, go_sem, *]) rfl ⟨rfl, BW.out⟩

set_option maxRecDepth 100000 in
set_option maxHeartbeats 8000000 in
theorem with_difference (A B M Z V : Nat) (k j i er : Int)
    (hk : 0 < k)
    (hj : j < 0)
    (hi : i < 0)
    (cO : ∀ w, Calls Try.prog 26 #[.int .u64 1] w fun e w' => e = .returned (num Z) ∧ Below w.heap.size w w')
    (ck : ∀ w, Calls Try.prog 46 #[num M, num Z] w fun e w' => e = .returned (.int .i64 k) ∧ Below w.heap.size w w')
    (cj : ∀ w, Calls Try.prog 46 #[num A, num M] w fun e w' => e = .returned (.int .i64 j) ∧ Below w.heap.size w w')
    (ci : ∀ w, Calls Try.prog 46 #[num B, num M] w fun e w' => e = .returned (.int .i64 i) ∧ Below w.heap.size w w')
    (cd : ∀ w, Calls Try.prog 44 #[num A, num B, num M] w fun e w' => e = .returned (.tuple #[num V, .int .i64 er]) ∧ Below w.heap.size w w')
    (w : World) : Calls Try.prog 41 #[.agg #[.func (.func 44) #[] #[]], num A, num B, num M] w fun e w' => e = .returned (.tuple #[num V, .int .i64 er]) ∧ Below w.heap.size w w' := by
  have HcO := Lib.hid cO
  have Hck := Lib.hid ck
  have Hcj := Lib.hid cj
  have Hci := Lib.hid ci
  have Hcd := Lib.hid cd
  clear cO ck cj ci cd
  go_enter Try.func41, Try.ntmps41
  go_wp2_with fail
  have BW := Lib.hid (Below.refl w.heap.size w)
  have Ex : w.heap.size ≤ w.heap.size + 1 + 1 + 1 + 1 := by have := BW.out.size; omega
  have Dtx : w.heap.size ≠ w.heap.size + 1 + 1 + 1 + 1 := by omega
  have Dax : w.heap.size + 1 ≠ w.heap.size + 1 + 1 + 1 + 1 := by omega
  have Dbx : w.heap.size + 1 + 1 ≠ w.heap.size + 1 + 1 + 1 + 1 := by omega
  have Dmx : w.heap.size + 1 + 1 + 1 ≠ w.heap.size + 1 + 1 + 1 + 1 := by omega
  generalize hW1 : (((((w.alloc (.cells #[.func (.func 44) #[] #[]] 71)).alloc (.cells #[.int .u64 (wd A 0 : Nat), .int .u64 (wd A 1 : Nat), .int .u64 (wd A 2 : Nat), .int .u64 (wd A 3 : Nat)] 24)).alloc (.cells #[.int .u64 (wd B 0 : Nat), .int .u64 (wd B 1 : Nat), .int .u64 (wd B 2 : Nat), .int .u64 (wd B 3 : Nat)] 24)).alloc (.cells #[.int .u64 (wd M 0 : Nat), .int .u64 (wd M 1 : Nat), .int .u64 (wd M 2 : Nat), .int .u64 (wd M 3 : Nat)] 24)).alloc (.cells #[.int .u64 0, .int .u64 0, .int .u64 0, .int .u64 0] 24)) = W1 at *
  have Nt : At W1 (w.heap.size) _ _ := at_of hW1 (((((At.at_ _ _ _ _ (by simp)).alloc _).alloc _).alloc _).alloc _)
  have Na : At W1 (w.heap.size + 1) _ _ := at_of hW1 ((((At.at_ _ _ _ _ (by simp)).alloc _).alloc _).alloc _)
  have Nb : At W1 (w.heap.size + 1 + 1) _ _ := at_of hW1 (((At.at_ _ _ _ _ (by simp)).alloc _).alloc _)
  have Nm : At W1 (w.heap.size + 1 + 1 + 1) _ _ := at_of hW1 ((At.at_ _ _ _ _ (by simp)).alloc _)
  have Nx : At W1 (w.heap.size + 1 + 1 + 1 + 1) _ _ := at_of hW1 (At.at_ _ _ _ _ (by simp))
  have NB := gr_of hW1 (gr_alloc (gr_alloc (gr_alloc (gr_alloc (gr_alloc BW.out _) _) _) _) _)
  clear hW1 BW 
  generalize w.heap.size + 1 + 1 + 1 + 1 = gx at *
  generalize w.heap.size + 1 + 1 + 1 = gm at *
  generalize w.heap.size + 1 + 1 = gb at *
  generalize w.heap.size + 1 = ga at *
  obtain ⟨gt, hg0⟩ : ∃ g, g = w.heap.size := ⟨_, rfl⟩
  rw [← hg0] at Nt ⊢
  rw [← hg0] at Dtx
  clear hg0
  have Ft := Lib.hid Nt
  have Fa := Lib.hid Na
  have Fb := Lib.hid Nb
  have Fm := Lib.hid Nm
  have Fx := Lib.hid Nx
  have BW := Lib.hid NB
  clear NB Nt Na Nb Nm Nx
  try simp only [List.append_eq, List.cons_append, List.nil_append]
  refine wp_region_noPanic ?_
  refine wp_region_held_drew (S := fun w' => At w' gm 24 #[.int .u64 (wd M 0 : Nat), .int .u64 (wd M 1 : Nat), .int .u64 (wd M 2 : Nat), .int .u64 (wd M 3 : Nat)] ∧ At w' ga 24 #[.int .u64 (wd A 0 : Nat), .int .u64 (wd A 1 : Nat), .int .u64 (wd A 2 : Nat), .int .u64 (wd A 3 : Nat)] ∧ At w' gb 24 #[.int .u64 (wd B 0 : Nat), .int .u64 (wd B 1 : Nat), .int .u64 (wd B 2 : Nat), .int .u64 (wd B 3 : Nat)]) (by kernel_rfl) (⟨Fm.out.drew, Fa.out.drew, Fb.out.drew⟩) (fun _ => ?_)
  refine wpAnyH_cores (fuel := 0) (⟨0, 10, [], Kind.val (.agg #[.int .u64 (wd M 0 : Nat), .int .u64 (wd M 1 : Nat), .int .u64 (wd M 2 : Nat), .int .u64 (wd M 3 : Nat)]), true⟩ :: ⟨1, 11, [0], Kind.val (.agg #[.int .u64 (wd Z 0 : Nat), .int .u64 (wd Z 1 : Nat), .int .u64 (wd Z 2 : Nat), .int .u64 (wd Z 3 : Nat)]), false⟩ :: ⟨2, 12, [0, 1], Kind.val (.int .i64 k), false⟩ :: ⟨3, 13, [2], Kind.val (.bool false), true⟩ :: ⟨4, 14, [3], Kind.val (.bool false), true⟩ :: ⟨5, 15, [4], Kind.val (.agg #[.int .u64 (wd A 0 : Nat), .int .u64 (wd A 1 : Nat), .int .u64 (wd A 2 : Nat), .int .u64 (wd A 3 : Nat)]), true⟩ :: ⟨6, 16, [4, 5], Kind.val (.agg #[.int .u64 (wd M 0 : Nat), .int .u64 (wd M 1 : Nat), .int .u64 (wd M 2 : Nat), .int .u64 (wd M 3 : Nat)]), true⟩ :: ⟨7, 17, [4, 5, 6], Kind.val (.int .i64 j), false⟩ :: ⟨8, 18, [4, 7], Kind.val (.bool false), true⟩ :: ⟨9, 19, [4, 8], Kind.val (.bool false), true⟩ :: ⟨10, 20, [9], Kind.val (.bool false), true⟩ :: ⟨11, 21, [10], Kind.val (.agg #[.int .u64 (wd B 0 : Nat), .int .u64 (wd B 1 : Nat), .int .u64 (wd B 2 : Nat), .int .u64 (wd B 3 : Nat)]), true⟩ :: ⟨12, 22, [10, 11], Kind.val (.agg #[.int .u64 (wd M 0 : Nat), .int .u64 (wd M 1 : Nat), .int .u64 (wd M 2 : Nat), .int .u64 (wd M 3 : Nat)]), true⟩ :: ⟨13, 23, [10, 11, 12], Kind.val (.int .i64 i), false⟩ :: ⟨14, 24, [10, 13], Kind.val (.bool false), true⟩ :: ⟨15, 25, [10, 14], Kind.val (.bool false), true⟩ :: []) _ _ W1 _ ?_ ?_ ?_ ?_ ?_ ?_ ?_ ?_ ?_ ?_ ?_
  · rfl
  · kernel_rfl
  · exact of_decide_eq_true (by kernel_rfl)
  · exact all_cons ⟨_, by rfl, by rfl⟩ (all_cons ⟨_, by rfl, by rfl⟩ (all_cons ⟨_, by rfl, by rfl⟩ (all_cons ⟨_, by rfl, by rfl⟩ (all_cons ⟨_, by rfl, by rfl⟩ (all_cons ⟨_, by rfl, by rfl⟩ (all_cons ⟨_, by rfl, by rfl⟩ (all_cons ⟨_, by rfl, by rfl⟩ (all_cons ⟨_, by rfl, by rfl⟩ (all_cons ⟨_, by rfl, by rfl⟩ (all_cons ⟨_, by rfl, by rfl⟩ (all_cons ⟨_, by rfl, by rfl⟩ (all_cons ⟨_, by rfl, by rfl⟩ (all_cons ⟨_, by rfl, by rfl⟩ (all_cons ⟨_, by rfl, by rfl⟩ (all_cons ⟨_, by rfl, by rfl⟩ (all_nil))))))))))))))))
  · exact fun _ hb => ⟨Fm.out.on hb, Fa.out.on hb, Fb.out.on hb⟩
  · exact (Below.refl _ _).drew
  · kernel_rfl
  · exact fun _ _ _ _ _ h => h
  · refine all_cons ?_ (all_cons ?_ (all_cons ?_ (all_cons ?_ (all_cons ?_ (all_cons ?_ (all_cons ?_ (all_cons ?_ (all_cons ?_ (all_cons ?_ (all_cons ?_ (all_cons ?_ (all_cons ?_ (all_cons ?_ (all_cons ?_ (all_cons ?_ (all_nil))))))))))))))))
    · exact coreG_loadP _ _ _ _ _ _ gm _ _ _ _ (by rfl) (by rfl) (wants_none) (known_old 7 _ (of_decide_eq_true (by rfl)) (by rfl)) (fun _ hs => hs.1)
    · exact core_pureAs _ (by rfl)
    · exact core_pureAs _ (by rfl)
    · exact coreG_bin _ _ _ _ _ _ _ _ _ _ _ _ _ (by rfl) (by rfl) (wants_none) (known_core 2 12 _ _ (of_decide_eq_true (by rfl)) (by rfl) (by rfl) (by rfl)) (known_const _) ((fun ρ w hx hy => by simp only [execOp, hx, hy]; simp [go_sem]; exact hk))
    · exact coreG_move _ _ _ _ _ _ _ (by rfl) (by rfl) (wants_none) (known_core 3 13 _ _ (of_decide_eq_true (by rfl)) (by rfl) (by rfl) (by rfl))
    · exact coreG_loadP _ _ _ _ _ _ ga _ _ _ _ (by rfl) (by rfl) (wants_core 4 14 4 _ _ _ (by rfl) (by rfl) (by rfl) (known_core 4 14 _ _ (of_decide_eq_true (by rfl)) (by rfl) (by rfl) (by rfl)) _ (by rfl)) (known_old 5 _ (of_decide_eq_true (by rfl)) (by rfl)) (fun _ hs => hs.2.1)
    · exact coreG_loadP _ _ _ _ _ _ gm _ _ _ _ (by rfl) (by rfl) (wants_core 4 14 4 _ _ _ (by rfl) (by rfl) (by rfl) (known_core 4 14 _ _ (of_decide_eq_true (by rfl)) (by rfl) (by rfl) (by rfl)) _ (by rfl)) (known_old 7 _ (of_decide_eq_true (by rfl)) (by rfl)) (fun _ hs => hs.1)
    · exact core_pureAs _ (by rfl)
    · exact coreG_bin _ _ _ _ _ _ _ _ _ _ _ _ _ (by rfl) (by rfl) (wants_core 4 14 4 _ _ _ (by rfl) (by rfl) (by rfl) (known_core 4 14 _ _ (of_decide_eq_true (by rfl)) (by rfl) (by rfl) (by rfl)) _ (by rfl)) (known_core 7 17 _ _ (of_decide_eq_true (by rfl)) (by rfl) (by rfl) (by rfl)) (known_const _) ((fun ρ w hx hy => by simp only [execOp, hx, hy]; simp [go_sem]; exact hj))
    · exact coreG_pick _ _ _ _ _ _ _ _ _ _ _ _ (by rfl) (by rfl) (wants_none) (known_core 4 14 _ _ (of_decide_eq_true (by rfl)) (by rfl) (by rfl) (by rfl)) (known_const _) (known_core 8 18 _ _ (of_decide_eq_true (by rfl)) (by rfl) (by rfl) (by rfl)) (by rfl)
    · exact coreG_move _ _ _ _ _ _ _ (by rfl) (by rfl) (wants_none) (known_core 9 19 _ _ (of_decide_eq_true (by rfl)) (by rfl) (by rfl) (by rfl))
    · exact coreG_loadP _ _ _ _ _ _ gb _ _ _ _ (by rfl) (by rfl) (wants_core 10 20 10 _ _ _ (by rfl) (by rfl) (by rfl) (known_core 10 20 _ _ (of_decide_eq_true (by rfl)) (by rfl) (by rfl) (by rfl)) _ (by rfl)) (known_old 6 _ (of_decide_eq_true (by rfl)) (by rfl)) (fun _ hs => hs.2.2)
    · exact coreG_loadP _ _ _ _ _ _ gm _ _ _ _ (by rfl) (by rfl) (wants_core 10 20 10 _ _ _ (by rfl) (by rfl) (by rfl) (known_core 10 20 _ _ (of_decide_eq_true (by rfl)) (by rfl) (by rfl) (by rfl)) _ (by rfl)) (known_old 7 _ (of_decide_eq_true (by rfl)) (by rfl)) (fun _ hs => hs.1)
    · exact core_pureAs _ (by rfl)
    · exact coreG_bin _ _ _ _ _ _ _ _ _ _ _ _ _ (by rfl) (by rfl) (wants_core 10 20 10 _ _ _ (by rfl) (by rfl) (by rfl) (known_core 10 20 _ _ (of_decide_eq_true (by rfl)) (by rfl) (by rfl) (by rfl)) _ (by rfl)) (known_core 13 23 _ _ (of_decide_eq_true (by rfl)) (by rfl) (by rfl) (by rfl)) (known_const _) ((fun ρ w hx hy => by simp only [execOp, hx, hy]; simp [go_sem]; exact hi))
    · exact coreG_pick _ _ _ _ _ _ _ _ _ _ _ _ (by rfl) (by rfl) (wants_none) (known_core 10 20 _ _ (of_decide_eq_true (by rfl)) (by rfl) (by rfl) (by rfl)) (known_const _) (known_core 14 24 _ _ (of_decide_eq_true (by rfl)) (by rfl) (by rfl) (by rfl)) (by rfl)
  · refine all_cons ?_ (all_cons ?_ (all_cons ?_ (all_cons ?_ (all_cons ?_ (all_cons ?_ (all_cons ?_ (all_cons ?_ (all_cons ?_ (all_cons ?_ (all_cons ?_ (all_cons ?_ (all_cons ?_ (all_cons ?_ (all_cons ?_ (all_cons ?_ (all_nil))))))))))))))))
    · exact core_stepAs _ (by rfl)
    · exact fun _ => coreG_call _ 26 _ _ [.const (.int .u64 1)] _ _ _ _ _ _ _ (by rfl) Try.func26 (by kernel_rfl) (by rfl) (by rfl) (wants_none) (.cons (known_const _) .nil) (HcO.out)
    · exact fun _ => coreG_call _ 46 _ _ [.tmp 10, .tmp 11] _ _ _ _ _ _ _ (by rfl) Try.func46 (by kernel_rfl) (by rfl) (by rfl) (wants_none) (.cons (known_core 0 10 _ _ (of_decide_eq_true (by rfl)) (by rfl) (by rfl) (by rfl)) (.cons (known_core 1 11 _ _ (of_decide_eq_true (by rfl)) (by rfl) (by rfl) (by rfl)) .nil)) (Hck.out)
    · exact core_stepAs _ (by rfl)
    · exact core_stepAs _ (by rfl)
    · exact core_stepAs _ (by rfl)
    · exact core_stepAs _ (by rfl)
    · exact fun _ => coreG_call _ 46 _ _ [.tmp 15, .tmp 16] _ _ _ _ _ _ _ (by rfl) Try.func46 (by kernel_rfl) (by rfl) (by rfl) (wants_core 4 14 4 _ _ _ (by rfl) (by rfl) (by rfl) (known_core 4 14 _ _ (of_decide_eq_true (by rfl)) (by rfl) (by rfl) (by rfl)) _ (by rfl)) (.cons (known_core 5 15 _ _ (of_decide_eq_true (by rfl)) (by rfl) (by rfl) (by rfl)) (.cons (known_core 6 16 _ _ (of_decide_eq_true (by rfl)) (by rfl) (by rfl) (by rfl)) .nil)) (Hcj.out)
    · exact core_stepAs _ (by rfl)
    · exact core_stepAs _ (by rfl)
    · exact core_stepAs _ (by rfl)
    · exact core_stepAs _ (by rfl)
    · exact core_stepAs _ (by rfl)
    · exact fun _ => coreG_call _ 46 _ _ [.tmp 21, .tmp 22] _ _ _ _ _ _ _ (by rfl) Try.func46 (by kernel_rfl) (by rfl) (by rfl) (wants_core 10 20 10 _ _ _ (by rfl) (by rfl) (by rfl) (known_core 10 20 _ _ (of_decide_eq_true (by rfl)) (by rfl) (by rfl) (by rfl)) _ (by rfl)) (.cons (known_core 11 21 _ _ (of_decide_eq_true (by rfl)) (by rfl) (by rfl) (by rfl)) (.cons (known_core 12 22 _ _ (of_decide_eq_true (by rfl)) (by rfl) (by rfl) (by rfl)) .nil)) (Hci.out)
    · exact core_stepAs _ (by rfl)
    · exact core_stepAs _ (by rfl)
  intro vs y2 hc
  obtain ⟨vv0, vv1, vv2, vv3, vv4, vv5, vv6, vv7, vv8, vv9, vv10, vv11, vv12, vv13, vv14, vv15, rfl⟩ := len16 vs hc.lv
  have qq0 : vv0 = .agg #[.int .u64 (wd M 0 : Nat), .int .u64 (wd M 1 : Nat), .int .u64 (wd M 2 : Nat), .int .u64 (wd M 3 : Nat)] := by obtain ⟨xx, hx, hy⟩ := hc.ok 0 _ rfl rfl; exact (Option.some.inj (show some vv0 = some xx from hx)).trans hy
  have qq1 : vv1 = .agg #[.int .u64 (wd Z 0 : Nat), .int .u64 (wd Z 1 : Nat), .int .u64 (wd Z 2 : Nat), .int .u64 (wd Z 3 : Nat)] := by obtain ⟨xx, hx, hy⟩ := hc.ok 1 _ rfl rfl; exact (Option.some.inj (show some vv1 = some xx from hx)).trans hy
  have qq2 : vv2 = .int .i64 k := by obtain ⟨xx, hx, hy⟩ := hc.ok 2 _ rfl rfl; exact (Option.some.inj (show some vv2 = some xx from hx)).trans hy
  have qq3 : vv3 = .bool false := by obtain ⟨xx, hx, hy⟩ := hc.ok 3 _ rfl rfl; exact (Option.some.inj (show some vv3 = some xx from hx)).trans hy
  have qq4 : vv4 = .bool false := by obtain ⟨xx, hx, hy⟩ := hc.ok 4 _ rfl rfl; exact (Option.some.inj (show some vv4 = some xx from hx)).trans hy
  have qq5 : vv5 = .agg #[.int .u64 (wd A 0 : Nat), .int .u64 (wd A 1 : Nat), .int .u64 (wd A 2 : Nat), .int .u64 (wd A 3 : Nat)] := by obtain ⟨xx, hx, hy⟩ := hc.ok 5 _ rfl rfl; exact (Option.some.inj (show some vv5 = some xx from hx)).trans hy
  have qq6 : vv6 = .agg #[.int .u64 (wd M 0 : Nat), .int .u64 (wd M 1 : Nat), .int .u64 (wd M 2 : Nat), .int .u64 (wd M 3 : Nat)] := by obtain ⟨xx, hx, hy⟩ := hc.ok 6 _ rfl rfl; exact (Option.some.inj (show some vv6 = some xx from hx)).trans hy
  have qq7 : vv7 = .int .i64 j := by obtain ⟨xx, hx, hy⟩ := hc.ok 7 _ rfl rfl; exact (Option.some.inj (show some vv7 = some xx from hx)).trans hy
  have qq8 : vv8 = .bool false := by obtain ⟨xx, hx, hy⟩ := hc.ok 8 _ rfl rfl; exact (Option.some.inj (show some vv8 = some xx from hx)).trans hy
  have qq9 : vv9 = .bool false := by obtain ⟨xx, hx, hy⟩ := hc.ok 9 _ rfl rfl; exact (Option.some.inj (show some vv9 = some xx from hx)).trans hy
  have qq10 : vv10 = .bool false := by obtain ⟨xx, hx, hy⟩ := hc.ok 10 _ rfl rfl; exact (Option.some.inj (show some vv10 = some xx from hx)).trans hy
  have qq11 : vv11 = .agg #[.int .u64 (wd B 0 : Nat), .int .u64 (wd B 1 : Nat), .int .u64 (wd B 2 : Nat), .int .u64 (wd B 3 : Nat)] := by obtain ⟨xx, hx, hy⟩ := hc.ok 11 _ rfl rfl; exact (Option.some.inj (show some vv11 = some xx from hx)).trans hy
  have qq12 : vv12 = .agg #[.int .u64 (wd M 0 : Nat), .int .u64 (wd M 1 : Nat), .int .u64 (wd M 2 : Nat), .int .u64 (wd M 3 : Nat)] := by obtain ⟨xx, hx, hy⟩ := hc.ok 12 _ rfl rfl; exact (Option.some.inj (show some vv12 = some xx from hx)).trans hy
  have qq13 : vv13 = .int .i64 i := by obtain ⟨xx, hx, hy⟩ := hc.ok 13 _ rfl rfl; exact (Option.some.inj (show some vv13 = some xx from hx)).trans hy
  have qq14 : vv14 = .bool false := by obtain ⟨xx, hx, hy⟩ := hc.ok 14 _ rfl rfl; exact (Option.some.inj (show some vv14 = some xx from hx)).trans hy
  have qq15 : vv15 = .bool false := by obtain ⟨xx, hx, hy⟩ := hc.ok 15 _ rfl rfl; exact (Option.some.inj (show some vv15 = some xx from hx)).trans hy
  have BZ := hc.bel
  clear hc
  have Nt := Ft.out.on BZ
  have Na := Fa.out.on BZ
  have Nb := Fb.out.on BZ
  have Nm := Fm.out.on BZ
  have Nx := Fx.out.on BZ
  have NB := bel_tr BW.out BZ
  clear BW BZ Ft Fa Fb Fm Fx
  subst qq0 qq1 qq2 qq3 qq4 qq5 qq6 qq7 qq8 qq9 qq10 qq11 qq12 qq13 qq14 qq15
  simp only [List.map_cons, List.map_nil, over, Act.put, List.setIfInBounds_toArray, List.set_cons_zero, List.set_cons_succ]
  refine wpAnyH_done (by kernel_rfl) ?_ _
  refine NoPanic.normal ?_
  have Ft := Lib.hid Nt
  have Fa := Lib.hid Na
  have Fb := Lib.hid Nb
  have Fm := Lib.hid Nm
  have Fx := Lib.hid Nx
  have BW := Lib.hid NB
  clear NB Nt Na Nb Nm Nx
  have Lt := Ft.out.lt
  have ct0 : y2.cell? ⟨gt, 0, none⟩ = some (.func (.func 44) #[] #[]) := Ft.out.cell 0
  have La := Fa.out.lt
  have ca0 := Fa.out.c0
  have ca1 := Fa.out.c1
  have ca2 := Fa.out.c2
  have ca3 := Fa.out.c3
  have Lb := Fb.out.lt
  have cb0 := Fb.out.c0
  have cb1 := Fb.out.c1
  have cb2 := Fb.out.c2
  have cb3 := Fb.out.c3
  have Lm := Fm.out.lt
  have cm0 := Fm.out.c0
  have cm1 := Fm.out.c1
  have cm2 := Fm.out.c2
  have cm3 := Fm.out.c3
  go_wp2_with fail
  clear Lt ct0 La ca0 ca1 ca2 ca3 Lb cb0 cb1 cb2 cb3 Lm cm0 cm1 cm2 cm3
  refine (Hcd.out _).mono ?_
  rintro e v3 ⟨rfl, z3⟩
  have Nt := Lib.hid (Ft.out.on z3)
  have Na := Lib.hid (Fa.out.on z3)
  have Nb := Lib.hid (Fb.out.on z3)
  have Nm := Lib.hid (Fm.out.on z3)
  have Nx := Lib.hid (Fx.out.on z3)
  have NB := Lib.hid (bel_tr BW.out z3)
  clear BW z3 Ft Fa Fb Fm Fx
  have Ft := Nt
  have Fa := Na
  have Fb := Nb
  have Fm := Nm
  have Fx := Nx
  have BW := NB
  clear NB Nt Na Nb Nm Nx
  have Lx := Fx.out.lt
  have cx0 := Fx.out.c0
  have cx1 := Fx.out.c1
  have cx2 := Fx.out.c2
  have cx3 := Fx.out.c3
  have fx0 : v3.frozen? ⟨gx, 0, none⟩ = false := Fx.out.frozen 0
  have fx1 : v3.frozen? ⟨gx, 1, none⟩ = false := Fx.out.frozen 1
  have fx2 : v3.frozen? ⟨gx, 2, none⟩ = false := Fx.out.frozen 2
  have fx3 : v3.frozen? ⟨gx, 3, none⟩ = false := Fx.out.frozen 3
  go_wp2_with fail
  clear Lx cx0 cx1 cx2 cx3 fx0 fx1 fx2 fx3
  generalize hW4 : ((((v3.setCell ⟨gx, 0, none⟩ (.int .u64 (wd V 0 : Nat))).setCell ⟨gx, 1, none⟩ (.int .u64 (wd V 1 : Nat))).setCell ⟨gx, 2, none⟩ (.int .u64 (wd V 2 : Nat))).setCell ⟨gx, 3, none⟩ (.int .u64 (wd V 3 : Nat))) = W4 at *
  have Nt := at_of hW4 ((Ft.out).far4 Dtx _ _ _ _)
  have Na := at_of hW4 ((Fa.out).far4 Dax _ _ _ _)
  have Nb := at_of hW4 ((Fb.out).far4 Dbx _ _ _ _)
  have Nm := at_of hW4 ((Fm.out).far4 Dmx _ _ _ _)
  have Nx := at_of hW4 ((Fx.out).put4 _ _ _ _)
  have NB := gr_of hW4 (((((BW.out).setCell Ex _).setCell Ex _).setCell Ex _).setCell Ex _)
  clear hW4 BW Ft Fa Fb Fm Fx
  have Ft := Lib.hid Nt
  have Fa := Lib.hid Na
  have Fb := Lib.hid Nb
  have Fm := Lib.hid Nm
  have Fx := Lib.hid Nx
  have BW := Lib.hid NB
  clear NB Nt Na Nb Nm Nx
  have Lx := Fx.out.lt
  have cx0 := Fx.out.c0
  have cx1 := Fx.out.c1
  have cx2 := Fx.out.c2
  have cx3 := Fx.out.c3
  refine bodyPost_ret (v := .tuple #[num V, .int .i64 er]) (by simp [results, Try.results41, go_sem, *]) rfl ⟨rfl, BW.out⟩

set_option maxRecDepth 100000 in
set_option maxHeartbeats 8000000 in
theorem with_product (A B M Z V : Nat) (k j i er : Int)
    (hk : 0 < k)
    (hj : j < 0)
    (hi : i < 0)
    (cO : ∀ w, Calls Try.prog 26 #[.int .u64 1] w fun e w' => e = .returned (num Z) ∧ Below w.heap.size w w')
    (ck : ∀ w, Calls Try.prog 46 #[num M, num Z] w fun e w' => e = .returned (.int .i64 k) ∧ Below w.heap.size w w')
    (cj : ∀ w, Calls Try.prog 46 #[num A, num M] w fun e w' => e = .returned (.int .i64 j) ∧ Below w.heap.size w w')
    (ci : ∀ w, Calls Try.prog 46 #[num B, num M] w fun e w' => e = .returned (.int .i64 i) ∧ Below w.heap.size w w')
    (cd : ∀ w, Calls Try.prog 42 #[num A, num B, num M] w fun e w' => e = .returned (.tuple #[num V, .int .i64 er]) ∧ Below w.heap.size w w')
    (w : World) : Calls Try.prog 41 #[.agg #[.func (.func 42) #[] #[]], num A, num B, num M] w fun e w' => e = .returned (.tuple #[num V, .int .i64 er]) ∧ Below w.heap.size w w' := by
  have HcO := Lib.hid cO
  have Hck := Lib.hid ck
  have Hcj := Lib.hid cj
  have Hci := Lib.hid ci
  have Hcd := Lib.hid cd
  clear cO ck cj ci cd
  go_enter Try.func41, Try.ntmps41
  go_wp2_with fail
  have BW := Lib.hid (Below.refl w.heap.size w)
  have Ex : w.heap.size ≤ w.heap.size + 1 + 1 + 1 + 1 := by have := BW.out.size; omega
  have Dtx : w.heap.size ≠ w.heap.size + 1 + 1 + 1 + 1 := by omega
  have Dax : w.heap.size + 1 ≠ w.heap.size + 1 + 1 + 1 + 1 := by omega
  have Dbx : w.heap.size + 1 + 1 ≠ w.heap.size + 1 + 1 + 1 + 1 := by omega
  have Dmx : w.heap.size + 1 + 1 + 1 ≠ w.heap.size + 1 + 1 + 1 + 1 := by omega
  generalize hW1 : (((((w.alloc (.cells #[.func (.func 42) #[] #[]] 71)).alloc (.cells #[.int .u64 (wd A 0 : Nat), .int .u64 (wd A 1 : Nat), .int .u64 (wd A 2 : Nat), .int .u64 (wd A 3 : Nat)] 24)).alloc (.cells #[.int .u64 (wd B 0 : Nat), .int .u64 (wd B 1 : Nat), .int .u64 (wd B 2 : Nat), .int .u64 (wd B 3 : Nat)] 24)).alloc (.cells #[.int .u64 (wd M 0 : Nat), .int .u64 (wd M 1 : Nat), .int .u64 (wd M 2 : Nat), .int .u64 (wd M 3 : Nat)] 24)).alloc (.cells #[.int .u64 0, .int .u64 0, .int .u64 0, .int .u64 0] 24)) = W1 at *
  have Nt : At W1 (w.heap.size) _ _ := at_of hW1 (((((At.at_ _ _ _ _ (by simp)).alloc _).alloc _).alloc _).alloc _)
  have Na : At W1 (w.heap.size + 1) _ _ := at_of hW1 ((((At.at_ _ _ _ _ (by simp)).alloc _).alloc _).alloc _)
  have Nb : At W1 (w.heap.size + 1 + 1) _ _ := at_of hW1 (((At.at_ _ _ _ _ (by simp)).alloc _).alloc _)
  have Nm : At W1 (w.heap.size + 1 + 1 + 1) _ _ := at_of hW1 ((At.at_ _ _ _ _ (by simp)).alloc _)
  have Nx : At W1 (w.heap.size + 1 + 1 + 1 + 1) _ _ := at_of hW1 (At.at_ _ _ _ _ (by simp))
  have NB := gr_of hW1 (gr_alloc (gr_alloc (gr_alloc (gr_alloc (gr_alloc BW.out _) _) _) _) _)
  clear hW1 BW 
  generalize w.heap.size + 1 + 1 + 1 + 1 = gx at *
  generalize w.heap.size + 1 + 1 + 1 = gm at *
  generalize w.heap.size + 1 + 1 = gb at *
  generalize w.heap.size + 1 = ga at *
  obtain ⟨gt, hg0⟩ : ∃ g, g = w.heap.size := ⟨_, rfl⟩
  rw [← hg0] at Nt ⊢
  rw [← hg0] at Dtx
  clear hg0
  have Ft := Lib.hid Nt
  have Fa := Lib.hid Na
  have Fb := Lib.hid Nb
  have Fm := Lib.hid Nm
  have Fx := Lib.hid Nx
  have BW := Lib.hid NB
  clear NB Nt Na Nb Nm Nx
  try simp only [List.append_eq, List.cons_append, List.nil_append]
  refine wp_region_noPanic ?_
  refine wp_region_held_drew (S := fun w' => At w' gm 24 #[.int .u64 (wd M 0 : Nat), .int .u64 (wd M 1 : Nat), .int .u64 (wd M 2 : Nat), .int .u64 (wd M 3 : Nat)] ∧ At w' ga 24 #[.int .u64 (wd A 0 : Nat), .int .u64 (wd A 1 : Nat), .int .u64 (wd A 2 : Nat), .int .u64 (wd A 3 : Nat)] ∧ At w' gb 24 #[.int .u64 (wd B 0 : Nat), .int .u64 (wd B 1 : Nat), .int .u64 (wd B 2 : Nat), .int .u64 (wd B 3 : Nat)]) (by kernel_rfl) (⟨Fm.out.drew, Fa.out.drew, Fb.out.drew⟩) (fun _ => ?_)
  refine wpAnyH_cores (fuel := 0) (⟨0, 10, [], Kind.val (.agg #[.int .u64 (wd M 0 : Nat), .int .u64 (wd M 1 : Nat), .int .u64 (wd M 2 : Nat), .int .u64 (wd M 3 : Nat)]), true⟩ :: ⟨1, 11, [0], Kind.val (.agg #[.int .u64 (wd Z 0 : Nat), .int .u64 (wd Z 1 : Nat), .int .u64 (wd Z 2 : Nat), .int .u64 (wd Z 3 : Nat)]), false⟩ :: ⟨2, 12, [0, 1], Kind.val (.int .i64 k), false⟩ :: ⟨3, 13, [2], Kind.val (.bool false), true⟩ :: ⟨4, 14, [3], Kind.val (.bool false), true⟩ :: ⟨5, 15, [4], Kind.val (.agg #[.int .u64 (wd A 0 : Nat), .int .u64 (wd A 1 : Nat), .int .u64 (wd A 2 : Nat), .int .u64 (wd A 3 : Nat)]), true⟩ :: ⟨6, 16, [4, 5], Kind.val (.agg #[.int .u64 (wd M 0 : Nat), .int .u64 (wd M 1 : Nat), .int .u64 (wd M 2 : Nat), .int .u64 (wd M 3 : Nat)]), true⟩ :: ⟨7, 17, [4, 5, 6], Kind.val (.int .i64 j), false⟩ :: ⟨8, 18, [4, 7], Kind.val (.bool false), true⟩ :: ⟨9, 19, [4, 8], Kind.val (.bool false), true⟩ :: ⟨10, 20, [9], Kind.val (.bool false), true⟩ :: ⟨11, 21, [10], Kind.val (.agg #[.int .u64 (wd B 0 : Nat), .int .u64 (wd B 1 : Nat), .int .u64 (wd B 2 : Nat), .int .u64 (wd B 3 : Nat)]), true⟩ :: ⟨12, 22, [10, 11], Kind.val (.agg #[.int .u64 (wd M 0 : Nat), .int .u64 (wd M 1 : Nat), .int .u64 (wd M 2 : Nat), .int .u64 (wd M 3 : Nat)]), true⟩ :: ⟨13, 23, [10, 11, 12], Kind.val (.int .i64 i), false⟩ :: ⟨14, 24, [10, 13], Kind.val (.bool false), true⟩ :: ⟨15, 25, [10, 14], Kind.val (.bool false), true⟩ :: []) _ _ W1 _ ?_ ?_ ?_ ?_ ?_ ?_ ?_ ?_ ?_ ?_ ?_
  · rfl
  · kernel_rfl
  · exact of_decide_eq_true (by kernel_rfl)
  · exact all_cons ⟨_, by rfl, by rfl⟩ (all_cons ⟨_, by rfl, by rfl⟩ (all_cons ⟨_, by rfl, by rfl⟩ (all_cons ⟨_, by rfl, by rfl⟩ (all_cons ⟨_, by rfl, by rfl⟩ (all_cons ⟨_, by rfl, by rfl⟩ (all_cons ⟨_, by rfl, by rfl⟩ (all_cons ⟨_, by rfl, by rfl⟩ (all_cons ⟨_, by rfl, by rfl⟩ (all_cons ⟨_, by rfl, by rfl⟩ (all_cons ⟨_, by rfl, by rfl⟩ (all_cons ⟨_, by rfl, by rfl⟩ (all_cons ⟨_, by rfl, by rfl⟩ (all_cons ⟨_, by rfl, by rfl⟩ (all_cons ⟨_, by rfl, by rfl⟩ (all_cons ⟨_, by rfl, by rfl⟩ (all_nil))))))))))))))))
  · exact fun _ hb => ⟨Fm.out.on hb, Fa.out.on hb, Fb.out.on hb⟩
  · exact (Below.refl _ _).drew
  · kernel_rfl
  · exact fun _ _ _ _ _ h => h
  · refine all_cons ?_ (all_cons ?_ (all_cons ?_ (all_cons ?_ (all_cons ?_ (all_cons ?_ (all_cons ?_ (all_cons ?_ (all_cons ?_ (all_cons ?_ (all_cons ?_ (all_cons ?_ (all_cons ?_ (all_cons ?_ (all_cons ?_ (all_cons ?_ (all_nil))))))))))))))))
    · exact coreG_loadP _ _ _ _ _ _ gm _ _ _ _ (by rfl) (by rfl) (wants_none) (known_old 7 _ (of_decide_eq_true (by rfl)) (by rfl)) (fun _ hs => hs.1)
    · exact core_pureAs _ (by rfl)
    · exact core_pureAs _ (by rfl)
    · exact coreG_bin _ _ _ _ _ _ _ _ _ _ _ _ _ (by rfl) (by rfl) (wants_none) (known_core 2 12 _ _ (of_decide_eq_true (by rfl)) (by rfl) (by rfl) (by rfl)) (known_const _) ((fun ρ w hx hy => by simp only [execOp, hx, hy]; simp [go_sem]; exact hk))
    · exact coreG_move _ _ _ _ _ _ _ (by rfl) (by rfl) (wants_none) (known_core 3 13 _ _ (of_decide_eq_true (by rfl)) (by rfl) (by rfl) (by rfl))
    · exact coreG_loadP _ _ _ _ _ _ ga _ _ _ _ (by rfl) (by rfl) (wants_core 4 14 4 _ _ _ (by rfl) (by rfl) (by rfl) (known_core 4 14 _ _ (of_decide_eq_true (by rfl)) (by rfl) (by rfl) (by rfl)) _ (by rfl)) (known_old 5 _ (of_decide_eq_true (by rfl)) (by rfl)) (fun _ hs => hs.2.1)
    · exact coreG_loadP _ _ _ _ _ _ gm _ _ _ _ (by rfl) (by rfl) (wants_core 4 14 4 _ _ _ (by rfl) (by rfl) (by rfl) (known_core 4 14 _ _ (of_decide_eq_true (by rfl)) (by rfl) (by rfl) (by rfl)) _ (by rfl)) (known_old 7 _ (of_decide_eq_true (by rfl)) (by rfl)) (fun _ hs => hs.1)
    · exact core_pureAs _ (by rfl)
    · exact coreG_bin _ _ _ _ _ _ _ _ _ _ _ _ _ (by rfl) (by rfl) (wants_core 4 14 4 _ _ _ (by rfl) (by rfl) (by rfl) (known_core 4 14 _ _ (of_decide_eq_true (by rfl)) (by rfl) (by rfl) (by rfl)) _ (by rfl)) (known_core 7 17 _ _ (of_decide_eq_true (by rfl)) (by rfl) (by rfl) (by rfl)) (known_const _) ((fun ρ w hx hy => by simp only [execOp, hx, hy]; simp [go_sem]; exact hj))
    · exact coreG_pick _ _ _ _ _ _ _ _ _ _ _ _ (by rfl) (by rfl) (wants_none) (known_core 4 14 _ _ (of_decide_eq_true (by rfl)) (by rfl) (by rfl) (by rfl)) (known_const _) (known_core 8 18 _ _ (of_decide_eq_true (by rfl)) (by rfl) (by rfl) (by rfl)) (by rfl)
    · exact coreG_move _ _ _ _ _ _ _ (by rfl) (by rfl) (wants_none) (known_core 9 19 _ _ (of_decide_eq_true (by rfl)) (by rfl) (by rfl) (by rfl))
    · exact coreG_loadP _ _ _ _ _ _ gb _ _ _ _ (by rfl) (by rfl) (wants_core 10 20 10 _ _ _ (by rfl) (by rfl) (by rfl) (known_core 10 20 _ _ (of_decide_eq_true (by rfl)) (by rfl) (by rfl) (by rfl)) _ (by rfl)) (known_old 6 _ (of_decide_eq_true (by rfl)) (by rfl)) (fun _ hs => hs.2.2)
    · exact coreG_loadP _ _ _ _ _ _ gm _ _ _ _ (by rfl) (by rfl) (wants_core 10 20 10 _ _ _ (by rfl) (by rfl) (by rfl) (known_core 10 20 _ _ (of_decide_eq_true (by rfl)) (by rfl) (by rfl) (by rfl)) _ (by rfl)) (known_old 7 _ (of_decide_eq_true (by rfl)) (by rfl)) (fun _ hs => hs.1)
    · exact core_pureAs _ (by rfl)
    · exact coreG_bin _ _ _ _ _ _ _ _ _ _ _ _ _ (by rfl) (by rfl) (wants_core 10 20 10 _ _ _ (by rfl) (by rfl) (by rfl) (known_core 10 20 _ _ (of_decide_eq_true (by rfl)) (by rfl) (by rfl) (by rfl)) _ (by rfl)) (known_core 13 23 _ _ (of_decide_eq_true (by rfl)) (by rfl) (by rfl) (by rfl)) (known_const _) ((fun ρ w hx hy => by simp only [execOp, hx, hy]; simp [go_sem]; exact hi))
    · exact coreG_pick _ _ _ _ _ _ _ _ _ _ _ _ (by rfl) (by rfl) (wants_none) (known_core 10 20 _ _ (of_decide_eq_true (by rfl)) (by rfl) (by rfl) (by rfl)) (known_const _) (known_core 14 24 _ _ (of_decide_eq_true (by rfl)) (by rfl) (by rfl) (by rfl)) (by rfl)
  · refine all_cons ?_ (all_cons ?_ (all_cons ?_ (all_cons ?_ (all_cons ?_ (all_cons ?_ (all_cons ?_ (all_cons ?_ (all_cons ?_ (all_cons ?_ (all_cons ?_ (all_cons ?_ (all_cons ?_ (all_cons ?_ (all_cons ?_ (all_cons ?_ (all_nil))))))))))))))))
    · exact core_stepAs _ (by rfl)
    · exact fun _ => coreG_call _ 26 _ _ [.const (.int .u64 1)] _ _ _ _ _ _ _ (by rfl) Try.func26 (by kernel_rfl) (by rfl) (by rfl) (wants_none) (.cons (known_const _) .nil) (HcO.out)
    · exact fun _ => coreG_call _ 46 _ _ [.tmp 10, .tmp 11] _ _ _ _ _ _ _ (by rfl) Try.func46 (by kernel_rfl) (by rfl) (by rfl) (wants_none) (.cons (known_core 0 10 _ _ (of_decide_eq_true (by rfl)) (by rfl) (by rfl) (by rfl)) (.cons (known_core 1 11 _ _ (of_decide_eq_true (by rfl)) (by rfl) (by rfl) (by rfl)) .nil)) (Hck.out)
    · exact core_stepAs _ (by rfl)
    · exact core_stepAs _ (by rfl)
    · exact core_stepAs _ (by rfl)
    · exact core_stepAs _ (by rfl)
    · exact fun _ => coreG_call _ 46 _ _ [.tmp 15, .tmp 16] _ _ _ _ _ _ _ (by rfl) Try.func46 (by kernel_rfl) (by rfl) (by rfl) (wants_core 4 14 4 _ _ _ (by rfl) (by rfl) (by rfl) (known_core 4 14 _ _ (of_decide_eq_true (by rfl)) (by rfl) (by rfl) (by rfl)) _ (by rfl)) (.cons (known_core 5 15 _ _ (of_decide_eq_true (by rfl)) (by rfl) (by rfl) (by rfl)) (.cons (known_core 6 16 _ _ (of_decide_eq_true (by rfl)) (by rfl) (by rfl) (by rfl)) .nil)) (Hcj.out)
    · exact core_stepAs _ (by rfl)
    · exact core_stepAs _ (by rfl)
    · exact core_stepAs _ (by rfl)
    · exact core_stepAs _ (by rfl)
    · exact core_stepAs _ (by rfl)
    · exact fun _ => coreG_call _ 46 _ _ [.tmp 21, .tmp 22] _ _ _ _ _ _ _ (by rfl) Try.func46 (by kernel_rfl) (by rfl) (by rfl) (wants_core 10 20 10 _ _ _ (by rfl) (by rfl) (by rfl) (known_core 10 20 _ _ (of_decide_eq_true (by rfl)) (by rfl) (by rfl) (by rfl)) _ (by rfl)) (.cons (known_core 11 21 _ _ (of_decide_eq_true (by rfl)) (by rfl) (by rfl) (by rfl)) (.cons (known_core 12 22 _ _ (of_decide_eq_true (by rfl)) (by rfl) (by rfl) (by rfl)) .nil)) (Hci.out)
    · exact core_stepAs _ (by rfl)
    · exact core_stepAs _ (by rfl)
  intro vs y2 hc
  obtain ⟨vv0, vv1, vv2, vv3, vv4, vv5, vv6, vv7, vv8, vv9, vv10, vv11, vv12, vv13, vv14, vv15, rfl⟩ := len16 vs hc.lv
  have qq0 : vv0 = .agg #[.int .u64 (wd M 0 : Nat), .int .u64 (wd M 1 : Nat), .int .u64 (wd M 2 : Nat), .int .u64 (wd M 3 : Nat)] := by obtain ⟨xx, hx, hy⟩ := hc.ok 0 _ rfl rfl; exact (Option.some.inj (show some vv0 = some xx from hx)).trans hy
  have qq1 : vv1 = .agg #[.int .u64 (wd Z 0 : Nat), .int .u64 (wd Z 1 : Nat), .int .u64 (wd Z 2 : Nat), .int .u64 (wd Z 3 : Nat)] := by obtain ⟨xx, hx, hy⟩ := hc.ok 1 _ rfl rfl; exact (Option.some.inj (show some vv1 = some xx from hx)).trans hy
  have qq2 : vv2 = .int .i64 k := by obtain ⟨xx, hx, hy⟩ := hc.ok 2 _ rfl rfl; exact (Option.some.inj (show some vv2 = some xx from hx)).trans hy
  have qq3 : vv3 = .bool false := by obtain ⟨xx, hx, hy⟩ := hc.ok 3 _ rfl rfl; exact (Option.some.inj (show some vv3 = some xx from hx)).trans hy
  have qq4 : vv4 = .bool false := by obtain ⟨xx, hx, hy⟩ := hc.ok 4 _ rfl rfl; exact (Option.some.inj (show some vv4 = some xx from hx)).trans hy
  have qq5 : vv5 = .agg #[.int .u64 (wd A 0 : Nat), .int .u64 (wd A 1 : Nat), .int .u64 (wd A 2 : Nat), .int .u64 (wd A 3 : Nat)] := by obtain ⟨xx, hx, hy⟩ := hc.ok 5 _ rfl rfl; exact (Option.some.inj (show some vv5 = some xx from hx)).trans hy
  have qq6 : vv6 = .agg #[.int .u64 (wd M 0 : Nat), .int .u64 (wd M 1 : Nat), .int .u64 (wd M 2 : Nat), .int .u64 (wd M 3 : Nat)] := by obtain ⟨xx, hx, hy⟩ := hc.ok 6 _ rfl rfl; exact (Option.some.inj (show some vv6 = some xx from hx)).trans hy
  have qq7 : vv7 = .int .i64 j := by obtain ⟨xx, hx, hy⟩ := hc.ok 7 _ rfl rfl; exact (Option.some.inj (show some vv7 = some xx from hx)).trans hy
  have qq8 : vv8 = .bool false := by obtain ⟨xx, hx, hy⟩ := hc.ok 8 _ rfl rfl; exact (Option.some.inj (show some vv8 = some xx from hx)).trans hy
  have qq9 : vv9 = .bool false := by obtain ⟨xx, hx, hy⟩ := hc.ok 9 _ rfl rfl; exact (Option.some.inj (show some vv9 = some xx from hx)).trans hy
  have qq10 : vv10 = .bool false := by obtain ⟨xx, hx, hy⟩ := hc.ok 10 _ rfl rfl; exact (Option.some.inj (show some vv10 = some xx from hx)).trans hy
  have qq11 : vv11 = .agg #[.int .u64 (wd B 0 : Nat), .int .u64 (wd B 1 : Nat), .int .u64 (wd B 2 : Nat), .int .u64 (wd B 3 : Nat)] := by obtain ⟨xx, hx, hy⟩ := hc.ok 11 _ rfl rfl; exact (Option.some.inj (show some vv11 = some xx from hx)).trans hy
  have qq12 : vv12 = .agg #[.int .u64 (wd M 0 : Nat), .int .u64 (wd M 1 : Nat), .int .u64 (wd M 2 : Nat), .int .u64 (wd M 3 : Nat)] := by obtain ⟨xx, hx, hy⟩ := hc.ok 12 _ rfl rfl; exact (Option.some.inj (show some vv12 = some xx from hx)).trans hy
  have qq13 : vv13 = .int .i64 i := by obtain ⟨xx, hx, hy⟩ := hc.ok 13 _ rfl rfl; exact (Option.some.inj (show some vv13 = some xx from hx)).trans hy
  have qq14 : vv14 = .bool false := by obtain ⟨xx, hx, hy⟩ := hc.ok 14 _ rfl rfl; exact (Option.some.inj (show some vv14 = some xx from hx)).trans hy
  have qq15 : vv15 = .bool false := by obtain ⟨xx, hx, hy⟩ := hc.ok 15 _ rfl rfl; exact (Option.some.inj (show some vv15 = some xx from hx)).trans hy
  have BZ := hc.bel
  clear hc
  have Nt := Ft.out.on BZ
  have Na := Fa.out.on BZ
  have Nb := Fb.out.on BZ
  have Nm := Fm.out.on BZ
  have Nx := Fx.out.on BZ
  have NB := bel_tr BW.out BZ
  clear BW BZ Ft Fa Fb Fm Fx
  subst qq0 qq1 qq2 qq3 qq4 qq5 qq6 qq7 qq8 qq9 qq10 qq11 qq12 qq13 qq14 qq15
  simp only [List.map_cons, List.map_nil, over, Act.put, List.setIfInBounds_toArray, List.set_cons_zero, List.set_cons_succ]
  refine wpAnyH_done (by kernel_rfl) ?_ _
  refine NoPanic.normal ?_
  have Ft := Lib.hid Nt
  have Fa := Lib.hid Na
  have Fb := Lib.hid Nb
  have Fm := Lib.hid Nm
  have Fx := Lib.hid Nx
  have BW := Lib.hid NB
  clear NB Nt Na Nb Nm Nx
  have Lt := Ft.out.lt
  have ct0 : y2.cell? ⟨gt, 0, none⟩ = some (.func (.func 42) #[] #[]) := Ft.out.cell 0
  have La := Fa.out.lt
  have ca0 := Fa.out.c0
  have ca1 := Fa.out.c1
  have ca2 := Fa.out.c2
  have ca3 := Fa.out.c3
  have Lb := Fb.out.lt
  have cb0 := Fb.out.c0
  have cb1 := Fb.out.c1
  have cb2 := Fb.out.c2
  have cb3 := Fb.out.c3
  have Lm := Fm.out.lt
  have cm0 := Fm.out.c0
  have cm1 := Fm.out.c1
  have cm2 := Fm.out.c2
  have cm3 := Fm.out.c3
  go_wp2_with fail
  clear Lt ct0 La ca0 ca1 ca2 ca3 Lb cb0 cb1 cb2 cb3 Lm cm0 cm1 cm2 cm3
  refine (Hcd.out _).mono ?_
  rintro e v3 ⟨rfl, z3⟩
  have Nt := Lib.hid (Ft.out.on z3)
  have Na := Lib.hid (Fa.out.on z3)
  have Nb := Lib.hid (Fb.out.on z3)
  have Nm := Lib.hid (Fm.out.on z3)
  have Nx := Lib.hid (Fx.out.on z3)
  have NB := Lib.hid (bel_tr BW.out z3)
  clear BW z3 Ft Fa Fb Fm Fx
  have Ft := Nt
  have Fa := Na
  have Fb := Nb
  have Fm := Nm
  have Fx := Nx
  have BW := NB
  clear NB Nt Na Nb Nm Nx
  have Lx := Fx.out.lt
  have cx0 := Fx.out.c0
  have cx1 := Fx.out.c1
  have cx2 := Fx.out.c2
  have cx3 := Fx.out.c3
  have fx0 : v3.frozen? ⟨gx, 0, none⟩ = false := Fx.out.frozen 0
  have fx1 : v3.frozen? ⟨gx, 1, none⟩ = false := Fx.out.frozen 1
  have fx2 : v3.frozen? ⟨gx, 2, none⟩ = false := Fx.out.frozen 2
  have fx3 : v3.frozen? ⟨gx, 3, none⟩ = false := Fx.out.frozen 3
  go_wp2_with fail
  clear Lx cx0 cx1 cx2 cx3 fx0 fx1 fx2 fx3
  generalize hW4 : ((((v3.setCell ⟨gx, 0, none⟩ (.int .u64 (wd V 0 : Nat))).setCell ⟨gx, 1, none⟩ (.int .u64 (wd V 1 : Nat))).setCell ⟨gx, 2, none⟩ (.int .u64 (wd V 2 : Nat))).setCell ⟨gx, 3, none⟩ (.int .u64 (wd V 3 : Nat))) = W4 at *
  have Nt := at_of hW4 ((Ft.out).far4 Dtx _ _ _ _)
  have Na := at_of hW4 ((Fa.out).far4 Dax _ _ _ _)
  have Nb := at_of hW4 ((Fb.out).far4 Dbx _ _ _ _)
  have Nm := at_of hW4 ((Fm.out).far4 Dmx _ _ _ _)
  have Nx := at_of hW4 ((Fx.out).put4 _ _ _ _)
  have NB := gr_of hW4 (((((BW.out).setCell Ex _).setCell Ex _).setCell Ex _).setCell Ex _)
  clear hW4 BW Ft Fa Fb Fm Fx
  have Ft := Lib.hid Nt
  have Fa := Lib.hid Na
  have Fb := Lib.hid Nb
  have Fm := Lib.hid Nm
  have Fx := Lib.hid Nx
  have BW := Lib.hid NB
  clear NB Nt Na Nb Nm Nx
  have Lx := Fx.out.lt
  have cx0 := Fx.out.c0
  have cx1 := Fx.out.c1
  have cx2 := Fx.out.c2
  have cx3 := Fx.out.c3
  refine bodyPost_ret (v := .tuple #[num V, .int .i64 er]) (by simp [results, Try.results41, go_sem, *]) rfl ⟨rfl, BW.out⟩

set_option maxRecDepth 100000 in
set_option maxHeartbeats 8000000 in
theorem with_inverse (A B M Z V : Nat) (k j i er : Int)
    (hk : 0 < k)
    (hj : j < 0)
    (hi : i < 0)
    (cO : ∀ w, Calls Try.prog 26 #[.int .u64 1] w fun e w' => e = .returned (num Z) ∧ Below w.heap.size w w')
    (ck : ∀ w, Calls Try.prog 46 #[num M, num Z] w fun e w' => e = .returned (.int .i64 k) ∧ Below w.heap.size w w')
    (cj : ∀ w, Calls Try.prog 46 #[num A, num M] w fun e w' => e = .returned (.int .i64 j) ∧ Below w.heap.size w w')
    (ci : ∀ w, Calls Try.prog 46 #[num B, num M] w fun e w' => e = .returned (.int .i64 i) ∧ Below w.heap.size w w')
    (cd : ∀ w, Calls Try.prog 43 #[num A, num B, num M] w fun e w' => e = .returned (.tuple #[num V, .int .i64 er]) ∧ Below w.heap.size w w')
    (w : World) : Calls Try.prog 41 #[.agg #[.func (.func 43) #[] #[]], num A, num B, num M] w fun e w' => e = .returned (.tuple #[num V, .int .i64 er]) ∧ Below w.heap.size w w' := by
  have HcO := Lib.hid cO
  have Hck := Lib.hid ck
  have Hcj := Lib.hid cj
  have Hci := Lib.hid ci
  have Hcd := Lib.hid cd
  clear cO ck cj ci cd
  go_enter Try.func41, Try.ntmps41
  go_wp2_with fail
  have BW := Lib.hid (Below.refl w.heap.size w)
  have Ex : w.heap.size ≤ w.heap.size + 1 + 1 + 1 + 1 := by have := BW.out.size; omega
  have Dtx : w.heap.size ≠ w.heap.size + 1 + 1 + 1 + 1 := by omega
  have Dax : w.heap.size + 1 ≠ w.heap.size + 1 + 1 + 1 + 1 := by omega
  have Dbx : w.heap.size + 1 + 1 ≠ w.heap.size + 1 + 1 + 1 + 1 := by omega
  have Dmx : w.heap.size + 1 + 1 + 1 ≠ w.heap.size + 1 + 1 + 1 + 1 := by omega
  generalize hW1 : (((((w.alloc (.cells #[.func (.func 43) #[] #[]] 71)).alloc (.cells #[.int .u64 (wd A 0 : Nat), .int .u64 (wd A 1 : Nat), .int .u64 (wd A 2 : Nat), .int .u64 (wd A 3 : Nat)] 24)).alloc (.cells #[.int .u64 (wd B 0 : Nat), .int .u64 (wd B 1 : Nat), .int .u64 (wd B 2 : Nat), .int .u64 (wd B 3 : Nat)] 24)).alloc (.cells #[.int .u64 (wd M 0 : Nat), .int .u64 (wd M 1 : Nat), .int .u64 (wd M 2 : Nat), .int .u64 (wd M 3 : Nat)] 24)).alloc (.cells #[.int .u64 0, .int .u64 0, .int .u64 0, .int .u64 0] 24)) = W1 at *
  have Nt : At W1 (w.heap.size) _ _ := at_of hW1 (((((At.at_ _ _ _ _ (by simp)).alloc _).alloc _).alloc _).alloc _)
  have Na : At W1 (w.heap.size + 1) _ _ := at_of hW1 ((((At.at_ _ _ _ _ (by simp)).alloc _).alloc _).alloc _)
  have Nb : At W1 (w.heap.size + 1 + 1) _ _ := at_of hW1 (((At.at_ _ _ _ _ (by simp)).alloc _).alloc _)
  have Nm : At W1 (w.heap.size + 1 + 1 + 1) _ _ := at_of hW1 ((At.at_ _ _ _ _ (by simp)).alloc _)
  have Nx : At W1 (w.heap.size + 1 + 1 + 1 + 1) _ _ := at_of hW1 (At.at_ _ _ _ _ (by simp))
  have NB := gr_of hW1 (gr_alloc (gr_alloc (gr_alloc (gr_alloc (gr_alloc BW.out _) _) _) _) _)
  clear hW1 BW 
  generalize w.heap.size + 1 + 1 + 1 + 1 = gx at *
  generalize w.heap.size + 1 + 1 + 1 = gm at *
  generalize w.heap.size + 1 + 1 = gb at *
  generalize w.heap.size + 1 = ga at *
  obtain ⟨gt, hg0⟩ : ∃ g, g = w.heap.size := ⟨_, rfl⟩
  rw [← hg0] at Nt ⊢
  rw [← hg0] at Dtx
  clear hg0
  have Ft := Lib.hid Nt
  have Fa := Lib.hid Na
  have Fb := Lib.hid Nb
  have Fm := Lib.hid Nm
  have Fx := Lib.hid Nx
  have BW := Lib.hid NB
  clear NB Nt Na Nb Nm Nx
  try simp only [List.append_eq, List.cons_append, List.nil_append]
  refine wp_region_noPanic ?_
  refine wp_region_held_drew (S := fun w' => At w' gm 24 #[.int .u64 (wd M 0 : Nat), .int .u64 (wd M 1 : Nat), .int .u64 (wd M 2 : Nat), .int .u64 (wd M 3 : Nat)] ∧ At w' ga 24 #[.int .u64 (wd A 0 : Nat), .int .u64 (wd A 1 : Nat), .int .u64 (wd A 2 : Nat), .int .u64 (wd A 3 : Nat)] ∧ At w' gb 24 #[.int .u64 (wd B 0 : Nat), .int .u64 (wd B 1 : Nat), .int .u64 (wd B 2 : Nat), .int .u64 (wd B 3 : Nat)]) (by kernel_rfl) (⟨Fm.out.drew, Fa.out.drew, Fb.out.drew⟩) (fun _ => ?_)
  refine wpAnyH_cores (fuel := 0) (⟨0, 10, [], Kind.val (.agg #[.int .u64 (wd M 0 : Nat), .int .u64 (wd M 1 : Nat), .int .u64 (wd M 2 : Nat), .int .u64 (wd M 3 : Nat)]), true⟩ :: ⟨1, 11, [0], Kind.val (.agg #[.int .u64 (wd Z 0 : Nat), .int .u64 (wd Z 1 : Nat), .int .u64 (wd Z 2 : Nat), .int .u64 (wd Z 3 : Nat)]), false⟩ :: ⟨2, 12, [0, 1], Kind.val (.int .i64 k), false⟩ :: ⟨3, 13, [2], Kind.val (.bool false), true⟩ :: ⟨4, 14, [3], Kind.val (.bool false), true⟩ :: ⟨5, 15, [4], Kind.val (.agg #[.int .u64 (wd A 0 : Nat), .int .u64 (wd A 1 : Nat), .int .u64 (wd A 2 : Nat), .int .u64 (wd A 3 : Nat)]), true⟩ :: ⟨6, 16, [4, 5], Kind.val (.agg #[.int .u64 (wd M 0 : Nat), .int .u64 (wd M 1 : Nat), .int .u64 (wd M 2 : Nat), .int .u64 (wd M 3 : Nat)]), true⟩ :: ⟨7, 17, [4, 5, 6], Kind.val (.int .i64 j), false⟩ :: ⟨8, 18, [4, 7], Kind.val (.bool false), true⟩ :: ⟨9, 19, [4, 8], Kind.val (.bool false), true⟩ :: ⟨10, 20, [9], Kind.val (.bool false), true⟩ :: ⟨11, 21, [10], Kind.val (.agg #[.int .u64 (wd B 0 : Nat), .int .u64 (wd B 1 : Nat), .int .u64 (wd B 2 : Nat), .int .u64 (wd B 3 : Nat)]), true⟩ :: ⟨12, 22, [10, 11], Kind.val (.agg #[.int .u64 (wd M 0 : Nat), .int .u64 (wd M 1 : Nat), .int .u64 (wd M 2 : Nat), .int .u64 (wd M 3 : Nat)]), true⟩ :: ⟨13, 23, [10, 11, 12], Kind.val (.int .i64 i), false⟩ :: ⟨14, 24, [10, 13], Kind.val (.bool false), true⟩ :: ⟨15, 25, [10, 14], Kind.val (.bool false), true⟩ :: []) _ _ W1 _ ?_ ?_ ?_ ?_ ?_ ?_ ?_ ?_ ?_ ?_ ?_
  · rfl
  · kernel_rfl
  · exact of_decide_eq_true (by kernel_rfl)
  · exact all_cons ⟨_, by rfl, by rfl⟩ (all_cons ⟨_, by rfl, by rfl⟩ (all_cons ⟨_, by rfl, by rfl⟩ (all_cons ⟨_, by rfl, by rfl⟩ (all_cons ⟨_, by rfl, by rfl⟩ (all_cons ⟨_, by rfl, by rfl⟩ (all_cons ⟨_, by rfl, by rfl⟩ (all_cons ⟨_, by rfl, by rfl⟩ (all_cons ⟨_, by rfl, by rfl⟩ (all_cons ⟨_, by rfl, by rfl⟩ (all_cons ⟨_, by rfl, by rfl⟩ (all_cons ⟨_, by rfl, by rfl⟩ (all_cons ⟨_, by rfl, by rfl⟩ (all_cons ⟨_, by rfl, by rfl⟩ (all_cons ⟨_, by rfl, by rfl⟩ (all_cons ⟨_, by rfl, by rfl⟩ (all_nil))))))))))))))))
  · exact fun _ hb => ⟨Fm.out.on hb, Fa.out.on hb, Fb.out.on hb⟩
  · exact (Below.refl _ _).drew
  · kernel_rfl
  · exact fun _ _ _ _ _ h => h
  · refine all_cons ?_ (all_cons ?_ (all_cons ?_ (all_cons ?_ (all_cons ?_ (all_cons ?_ (all_cons ?_ (all_cons ?_ (all_cons ?_ (all_cons ?_ (all_cons ?_ (all_cons ?_ (all_cons ?_ (all_cons ?_ (all_cons ?_ (all_cons ?_ (all_nil))))))))))))))))
    · exact coreG_loadP _ _ _ _ _ _ gm _ _ _ _ (by rfl) (by rfl) (wants_none) (known_old 7 _ (of_decide_eq_true (by rfl)) (by rfl)) (fun _ hs => hs.1)
    · exact core_pureAs _ (by rfl)
    · exact core_pureAs _ (by rfl)
    · exact coreG_bin _ _ _ _ _ _ _ _ _ _ _ _ _ (by rfl) (by rfl) (wants_none) (known_core 2 12 _ _ (of_decide_eq_true (by rfl)) (by rfl) (by rfl) (by rfl)) (known_const _) ((fun ρ w hx hy => by simp only [execOp, hx, hy]; simp [go_sem]; exact hk))
    · exact coreG_move _ _ _ _ _ _ _ (by rfl) (by rfl) (wants_none) (known_core 3 13 _ _ (of_decide_eq_true (by rfl)) (by rfl) (by rfl) (by rfl))
    · exact coreG_loadP _ _ _ _ _ _ ga _ _ _ _ (by rfl) (by rfl) (wants_core 4 14 4 _ _ _ (by rfl) (by rfl) (by rfl) (known_core 4 14 _ _ (of_decide_eq_true (by rfl)) (by rfl) (by rfl) (by rfl)) _ (by rfl)) (known_old 5 _ (of_decide_eq_true (by rfl)) (by rfl)) (fun _ hs => hs.2.1)
    · exact coreG_loadP _ _ _ _ _ _ gm _ _ _ _ (by rfl) (by rfl) (wants_core 4 14 4 _ _ _ (by rfl) (by rfl) (by rfl) (known_core 4 14 _ _ (of_decide_eq_true (by rfl)) (by rfl) (by rfl) (by rfl)) _ (by rfl)) (known_old 7 _ (of_decide_eq_true (by rfl)) (by rfl)) (fun _ hs => hs.1)
    · exact core_pureAs _ (by rfl)
    · exact coreG_bin _ _ _ _ _ _ _ _ _ _ _ _ _ (by rfl) (by rfl) (wants_core 4 14 4 _ _ _ (by rfl) (by rfl) (by rfl) (known_core 4 14 _ _ (of_decide_eq_true (by rfl)) (by rfl) (by rfl) (by rfl)) _ (by rfl)) (known_core 7 17 _ _ (of_decide_eq_true (by rfl)) (by rfl) (by rfl) (by rfl)) (known_const _) ((fun ρ w hx hy => by simp only [execOp, hx, hy]; simp [go_sem]; exact hj))
    · exact coreG_pick _ _ _ _ _ _ _ _ _ _ _ _ (by rfl) (by rfl) (wants_none) (known_core 4 14 _ _ (of_decide_eq_true (by rfl)) (by rfl) (by rfl) (by rfl)) (known_const _) (known_core 8 18 _ _ (of_decide_eq_true (by rfl)) (by rfl) (by rfl) (by rfl)) (by rfl)
    · exact coreG_move _ _ _ _ _ _ _ (by rfl) (by rfl) (wants_none) (known_core 9 19 _ _ (of_decide_eq_true (by rfl)) (by rfl) (by rfl) (by rfl))
    · exact coreG_loadP _ _ _ _ _ _ gb _ _ _ _ (by rfl) (by rfl) (wants_core 10 20 10 _ _ _ (by rfl) (by rfl) (by rfl) (known_core 10 20 _ _ (of_decide_eq_true (by rfl)) (by rfl) (by rfl) (by rfl)) _ (by rfl)) (known_old 6 _ (of_decide_eq_true (by rfl)) (by rfl)) (fun _ hs => hs.2.2)
    · exact coreG_loadP _ _ _ _ _ _ gm _ _ _ _ (by rfl) (by rfl) (wants_core 10 20 10 _ _ _ (by rfl) (by rfl) (by rfl) (known_core 10 20 _ _ (of_decide_eq_true (by rfl)) (by rfl) (by rfl) (by rfl)) _ (by rfl)) (known_old 7 _ (of_decide_eq_true (by rfl)) (by rfl)) (fun _ hs => hs.1)
    · exact core_pureAs _ (by rfl)
    · exact coreG_bin _ _ _ _ _ _ _ _ _ _ _ _ _ (by rfl) (by rfl) (wants_core 10 20 10 _ _ _ (by rfl) (by rfl) (by rfl) (known_core 10 20 _ _ (of_decide_eq_true (by rfl)) (by rfl) (by rfl) (by rfl)) _ (by rfl)) (known_core 13 23 _ _ (of_decide_eq_true (by rfl)) (by rfl) (by rfl) (by rfl)) (known_const _) ((fun ρ w hx hy => by simp only [execOp, hx, hy]; simp [go_sem]; exact hi))
    · exact coreG_pick _ _ _ _ _ _ _ _ _ _ _ _ (by rfl) (by rfl) (wants_none) (known_core 10 20 _ _ (of_decide_eq_true (by rfl)) (by rfl) (by rfl) (by rfl)) (known_const _) (known_core 14 24 _ _ (of_decide_eq_true (by rfl)) (by rfl) (by rfl) (by rfl)) (by rfl)
  · refine all_cons ?_ (all_cons ?_ (all_cons ?_ (all_cons ?_ (all_cons ?_ (all_cons ?_ (all_cons ?_ (all_cons ?_ (all_cons ?_ (all_cons ?_ (all_cons ?_ (all_cons ?_ (all_cons ?_ (all_cons ?_ (all_cons ?_ (all_cons ?_ (all_nil))))))))))))))))
    · exact core_stepAs _ (by rfl)
    · exact fun _ => coreG_call _ 26 _ _ [.const (.int .u64 1)] _ _ _ _ _ _ _ (by rfl) Try.func26 (by kernel_rfl) (by rfl) (by rfl) (wants_none) (.cons (known_const _) .nil) (HcO.out)
    · exact fun _ => coreG_call _ 46 _ _ [.tmp 10, .tmp 11] _ _ _ _ _ _ _ (by rfl) Try.func46 (by kernel_rfl) (by rfl) (by rfl) (wants_none) (.cons (known_core 0 10 _ _ (of_decide_eq_true (by rfl)) (by rfl) (by rfl) (by rfl)) (.cons (known_core 1 11 _ _ (of_decide_eq_true (by rfl)) (by rfl) (by rfl) (by rfl)) .nil)) (Hck.out)
    · exact core_stepAs _ (by rfl)
    · exact core_stepAs _ (by rfl)
    · exact core_stepAs _ (by rfl)
    · exact core_stepAs _ (by rfl)
    · exact fun _ => coreG_call _ 46 _ _ [.tmp 15, .tmp 16] _ _ _ _ _ _ _ (by rfl) Try.func46 (by kernel_rfl) (by rfl) (by rfl) (wants_core 4 14 4 _ _ _ (by rfl) (by rfl) (by rfl) (known_core 4 14 _ _ (of_decide_eq_true (by rfl)) (by rfl) (by rfl) (by rfl)) _ (by rfl)) (.cons (known_core 5 15 _ _ (of_decide_eq_true (by rfl)) (by rfl) (by rfl) (by rfl)) (.cons (known_core 6 16 _ _ (of_decide_eq_true (by rfl)) (by rfl) (by rfl) (by rfl)) .nil)) (Hcj.out)
    · exact core_stepAs _ (by rfl)
    · exact core_stepAs _ (by rfl)
    · exact core_stepAs _ (by rfl)
    · exact core_stepAs _ (by rfl)
    · exact core_stepAs _ (by rfl)
    · exact fun _ => coreG_call _ 46 _ _ [.tmp 21, .tmp 22] _ _ _ _ _ _ _ (by rfl) Try.func46 (by kernel_rfl) (by rfl) (by rfl) (wants_core 10 20 10 _ _ _ (by rfl) (by rfl) (by rfl) (known_core 10 20 _ _ (of_decide_eq_true (by rfl)) (by rfl) (by rfl) (by rfl)) _ (by rfl)) (.cons (known_core 11 21 _ _ (of_decide_eq_true (by rfl)) (by rfl) (by rfl) (by rfl)) (.cons (known_core 12 22 _ _ (of_decide_eq_true (by rfl)) (by rfl) (by rfl) (by rfl)) .nil)) (Hci.out)
    · exact core_stepAs _ (by rfl)
    · exact core_stepAs _ (by rfl)
  intro vs y2 hc
  obtain ⟨vv0, vv1, vv2, vv3, vv4, vv5, vv6, vv7, vv8, vv9, vv10, vv11, vv12, vv13, vv14, vv15, rfl⟩ := len16 vs hc.lv
  have qq0 : vv0 = .agg #[.int .u64 (wd M 0 : Nat), .int .u64 (wd M 1 : Nat), .int .u64 (wd M 2 : Nat), .int .u64 (wd M 3 : Nat)] := by obtain ⟨xx, hx, hy⟩ := hc.ok 0 _ rfl rfl; exact (Option.some.inj (show some vv0 = some xx from hx)).trans hy
  have qq1 : vv1 = .agg #[.int .u64 (wd Z 0 : Nat), .int .u64 (wd Z 1 : Nat), .int .u64 (wd Z 2 : Nat), .int .u64 (wd Z 3 : Nat)] := by obtain ⟨xx, hx, hy⟩ := hc.ok 1 _ rfl rfl; exact (Option.some.inj (show some vv1 = some xx from hx)).trans hy
  have qq2 : vv2 = .int .i64 k := by obtain ⟨xx, hx, hy⟩ := hc.ok 2 _ rfl rfl; exact (Option.some.inj (show some vv2 = some xx from hx)).trans hy
  have qq3 : vv3 = .bool false := by obtain ⟨xx, hx, hy⟩ := hc.ok 3 _ rfl rfl; exact (Option.some.inj (show some vv3 = some xx from hx)).trans hy
  have qq4 : vv4 = .bool false := by obtain ⟨xx, hx, hy⟩ := hc.ok 4 _ rfl rfl; exact (Option.some.inj (show some vv4 = some xx from hx)).trans hy
  have qq5 : vv5 = .agg #[.int .u64 (wd A 0 : Nat), .int .u64 (wd A 1 : Nat), .int .u64 (wd A 2 : Nat), .int .u64 (wd A 3 : Nat)] := by obtain ⟨xx, hx, hy⟩ := hc.ok 5 _ rfl rfl; exact (Option.some.inj (show some vv5 = some xx from hx)).trans hy
  have qq6 : vv6 = .agg #[.int .u64 (wd M 0 : Nat), .int .u64 (wd M 1 : Nat), .int .u64 (wd M 2 : Nat), .int .u64 (wd M 3 : Nat)] := by obtain ⟨xx, hx, hy⟩ := hc.ok 6 _ rfl rfl; exact (Option.some.inj (show some vv6 = some xx from hx)).trans hy
  have qq7 : vv7 = .int .i64 j := by obtain ⟨xx, hx, hy⟩ := hc.ok 7 _ rfl rfl; exact (Option.some.inj (show some vv7 = some xx from hx)).trans hy
  have qq8 : vv8 = .bool false := by obtain ⟨xx, hx, hy⟩ := hc.ok 8 _ rfl rfl; exact (Option.some.inj (show some vv8 = some xx from hx)).trans hy
  have qq9 : vv9 = .bool false := by obtain ⟨xx, hx, hy⟩ := hc.ok 9 _ rfl rfl; exact (Option.some.inj (show some vv9 = some xx from hx)).trans hy
  have qq10 : vv10 = .bool false := by obtain ⟨xx, hx, hy⟩ := hc.ok 10 _ rfl rfl; exact (Option.some.inj (show some vv10 = some xx from hx)).trans hy
  have qq11 : vv11 = .agg #[.int .u64 (wd B 0 : Nat), .int .u64 (wd B 1 : Nat), .int .u64 (wd B 2 : Nat), .int .u64 (wd B 3 : Nat)] := by obtain ⟨xx, hx, hy⟩ := hc.ok 11 _ rfl rfl; exact (Option.some.inj (show some vv11 = some xx from hx)).trans hy
  have qq12 : vv12 = .agg #[.int .u64 (wd M 0 : Nat), .int .u64 (wd M 1 : Nat), .int .u64 (wd M 2 : Nat), .int .u64 (wd M 3 : Nat)] := by obtain ⟨xx, hx, hy⟩ := hc.ok 12 _ rfl rfl; exact (Option.some.inj (show some vv12 = some xx from hx)).trans hy
  have qq13 : vv13 = .int .i64 i := by obtain ⟨xx, hx, hy⟩ := hc.ok 13 _ rfl rfl; exact (Option.some.inj (show some vv13 = some xx from hx)).trans hy
  have qq14 : vv14 = .bool false := by obtain ⟨xx, hx, hy⟩ := hc.ok 14 _ rfl rfl; exact (Option.some.inj (show some vv14 = some xx from hx)).trans hy
  have qq15 : vv15 = .bool false := by obtain ⟨xx, hx, hy⟩ := hc.ok 15 _ rfl rfl; exact (Option.some.inj (show some vv15 = some xx from hx)).trans hy
  have BZ := hc.bel
  clear hc
  have Nt := Ft.out.on BZ
  have Na := Fa.out.on BZ
  have Nb := Fb.out.on BZ
  have Nm := Fm.out.on BZ
  have Nx := Fx.out.on BZ
  have NB := bel_tr BW.out BZ
  clear BW BZ Ft Fa Fb Fm Fx
  subst qq0 qq1 qq2 qq3 qq4 qq5 qq6 qq7 qq8 qq9 qq10 qq11 qq12 qq13 qq14 qq15
  simp only [List.map_cons, List.map_nil, over, Act.put, List.setIfInBounds_toArray, List.set_cons_zero, List.set_cons_succ]
  refine wpAnyH_done (by kernel_rfl) ?_ _
  refine NoPanic.normal ?_
  have Ft := Lib.hid Nt
  have Fa := Lib.hid Na
  have Fb := Lib.hid Nb
  have Fm := Lib.hid Nm
  have Fx := Lib.hid Nx
  have BW := Lib.hid NB
  clear NB Nt Na Nb Nm Nx
  have Lt := Ft.out.lt
  have ct0 : y2.cell? ⟨gt, 0, none⟩ = some (.func (.func 43) #[] #[]) := Ft.out.cell 0
  have La := Fa.out.lt
  have ca0 := Fa.out.c0
  have ca1 := Fa.out.c1
  have ca2 := Fa.out.c2
  have ca3 := Fa.out.c3
  have Lb := Fb.out.lt
  have cb0 := Fb.out.c0
  have cb1 := Fb.out.c1
  have cb2 := Fb.out.c2
  have cb3 := Fb.out.c3
  have Lm := Fm.out.lt
  have cm0 := Fm.out.c0
  have cm1 := Fm.out.c1
  have cm2 := Fm.out.c2
  have cm3 := Fm.out.c3
  go_wp2_with fail
  clear Lt ct0 La ca0 ca1 ca2 ca3 Lb cb0 cb1 cb2 cb3 Lm cm0 cm1 cm2 cm3
  refine (Hcd.out _).mono ?_
  rintro e v3 ⟨rfl, z3⟩
  have Nt := Lib.hid (Ft.out.on z3)
  have Na := Lib.hid (Fa.out.on z3)
  have Nb := Lib.hid (Fb.out.on z3)
  have Nm := Lib.hid (Fm.out.on z3)
  have Nx := Lib.hid (Fx.out.on z3)
  have NB := Lib.hid (bel_tr BW.out z3)
  clear BW z3 Ft Fa Fb Fm Fx
  have Ft := Nt
  have Fa := Na
  have Fb := Nb
  have Fm := Nm
  have Fx := Nx
  have BW := NB
  clear NB Nt Na Nb Nm Nx
  have Lx := Fx.out.lt
  have cx0 := Fx.out.c0
  have cx1 := Fx.out.c1
  have cx2 := Fx.out.c2
  have cx3 := Fx.out.c3
  have fx0 : v3.frozen? ⟨gx, 0, none⟩ = false := Fx.out.frozen 0
  have fx1 : v3.frozen? ⟨gx, 1, none⟩ = false := Fx.out.frozen 1
  have fx2 : v3.frozen? ⟨gx, 2, none⟩ = false := Fx.out.frozen 2
  have fx3 : v3.frozen? ⟨gx, 3, none⟩ = false := Fx.out.frozen 3
  go_wp2_with fail
  clear Lx cx0 cx1 cx2 cx3 fx0 fx1 fx2 fx3
  generalize hW4 : ((((v3.setCell ⟨gx, 0, none⟩ (.int .u64 (wd V 0 : Nat))).setCell ⟨gx, 1, none⟩ (.int .u64 (wd V 1 : Nat))).setCell ⟨gx, 2, none⟩ (.int .u64 (wd V 2 : Nat))).setCell ⟨gx, 3, none⟩ (.int .u64 (wd V 3 : Nat))) = W4 at *
  have Nt := at_of hW4 ((Ft.out).far4 Dtx _ _ _ _)
  have Na := at_of hW4 ((Fa.out).far4 Dax _ _ _ _)
  have Nb := at_of hW4 ((Fb.out).far4 Dbx _ _ _ _)
  have Nm := at_of hW4 ((Fm.out).far4 Dmx _ _ _ _)
  have Nx := at_of hW4 ((Fx.out).put4 _ _ _ _)
  have NB := gr_of hW4 (((((BW.out).setCell Ex _).setCell Ex _).setCell Ex _).setCell Ex _)
  clear hW4 BW Ft Fa Fb Fm Fx
  have Ft := Lib.hid Nt
  have Fa := Lib.hid Na
  have Fb := Lib.hid Nb
  have Fm := Lib.hid Nm
  have Fx := Lib.hid Nx
  have BW := Lib.hid NB
  clear NB Nt Na Nb Nm Nx
  have Lx := Fx.out.lt
  have cx0 := Fx.out.c0
  have cx1 := Fx.out.c1
  have cx2 := Fx.out.c2
  have cx3 := Fx.out.c3
  refine bodyPost_ret (v := .tuple #[num V, .int .i64 er]) (by simp [results, Try.results41, go_sem, *]) rfl ⟨rfl, BW.out⟩

end Go.Proofs.Ytfjploahkodekaa
