/-
  The walk of PrimesProduct: it answers true, and nothing that was there is changed.
-/
import Derived.Deep.Cut
import Derived.Test.YtnphoelbbgmehaaMAlive7
import Derived.Test.YtnphoelbbgmehaaMRCore2
import Derived.Test.YtnphoelbbgmehaaMSizeR
import Derived.Test.YtnphoelbbgmehaaMSmall
import Derived.Test.YtnphoelbbgmehaaMUndec
namespace Go.Proofs.Ytnphoelbbgmehaa
set_option maxRecDepth 100000
open Go.RowKit
set_option linter.unusedSimpArgs false
set_option linter.unusedVariables false
attribute [local go_sem ↓] Go.wp_at_zero Go.wp_at_succ

theorem notpri_mul {A B : Nat} (hA : 1 < A) (hB : 1 < B) : ¬ Pr.Pri (A * B) := by
  refine Pr.not_pri_of (d := A) (by omega) ?_ (Nat.mul_mod_right A B)
  have : A * 2 ≤ A * B := Nat.mul_le_mul_left _ hB
  omega
theorem bitLen_lt {X : Nat} (h : Go.bitLen X ≤ 64) : X < 18446744073709551616 := by
  have := (Go.bitLen_spec X).1
  have h2 : 2 ^ Go.bitLen X ≤ 2 ^ 64 := Nat.pow_le_pow_right (by decide) h
  have h3 : (2 : Nat) ^ 64 = 18446744073709551616 := by decide
  omega

set_option maxRecDepth 100000 in
set_option maxHeartbeats 8000000 in
theorem product_walk (A B N Y : Nat) (a : Option Addr) (cap : Nat) (ps : List Pr.Rsn) (hA : A < 2 ^ 256) (hB : B < 2 ^ 256) (hN : N < 2 ^ 256) (hY : Y < 2 ^ 256) (w : World) (hs : Sl w a cap ps) :
    Calls Try.prog 5 #[num A, num B, rv N Y (.slice a ps.length cap)] w fun e w' => e = .returned (.bool true) ∧ Below w.heap.size w w' := by
  have HSZ := Lib.hid (fun (u : World) (hb : Below w.heap.size w u) => size_any w _ (.mk N Y ps) (Nat.le_refl _) a cap u hN hY hs hb)
  have HCK := Lib.hid (fun (n : Nat) (hn : n < 2 ^ 256) (u : World) (hb : Below w.heap.size w u) => check_any (.mk n Y ps) a cap hn hY u (hs.on hb))
  simp only [Pr.Rsn.n, Pr.Rsn.w, Pr.Rsn.ps] at HSZ HCK
  obtain ⟨l, hl⟩ : ∃ l, ps.length = l := ⟨_, rfl⟩
  rw [hl] at HSZ HCK ⊢
  generalize szR (.mk N Y ps) = z at *
  have HO := Lib.hid (fun w => ofP_any 1 (by decide) w)
  have HKA := Lib.hid (fun w => cmp_any A 1 hA (by decide) w)
  have HKB := Lib.hid (fun w => cmp_any B 1 hB (by decide) w)
  have HA := Lib.hid hA; have HB := Lib.hid hB
  clear hA hB hN hY hs hl
  go_enter Try.func5, Try.ntmps5
  have BW := Lib.hid (Below.refl w.heap.size w)
  go_upto_region 1 with fail
  have Eb : w.heap.size ≤ w.heap.size + 1 := by have := BW.out.size; omega
  have Dab : w.heap.size ≠ w.heap.size + 1 := by omega
  have Er : w.heap.size ≤ w.heap.size + 1 + 1 := by have := BW.out.size; omega
  have Dar : w.heap.size ≠ w.heap.size + 1 + 1 := by omega
  have Dbr : w.heap.size + 1 ≠ w.heap.size + 1 + 1 := by omega
  generalize hW1 : (((w.alloc (.cells #[.int .u64 (wd A 0 : Nat), .int .u64 (wd A 1 : Nat), .int .u64 (wd A 2 : Nat), .int .u64 (wd A 3 : Nat)] 25)).alloc (.cells #[.int .u64 (wd B 0 : Nat), .int .u64 (wd B 1 : Nat), .int .u64 (wd B 2 : Nat), .int .u64 (wd B 3 : Nat)] 25)).alloc (.cells #[.int .u64 (wd N 0 : Nat), .int .u64 (wd N 1 : Nat), .int .u64 (wd N 2 : Nat), .int .u64 (wd N 3 : Nat), .int .u64 (wd Y 0 : Nat), .int .u64 (wd Y 1 : Nat), .int .u64 (wd Y 2 : Nat), .int .u64 (wd Y 3 : Nat), .slice a l cap] 28)) = W1 at *
  have Na : At W1 (w.heap.size) _ _ := at_of hW1 (((At.at_ _ _ _ _ (by simp)).alloc _).alloc _)
  have Nb : At W1 (w.heap.size + 1) _ _ := at_of hW1 ((At.at_ _ _ _ _ (by simp)).alloc _)
  have Nr : At W1 (w.heap.size + 1 + 1) _ _ := at_of hW1 (At.at_ _ _ _ _ (by simp))
  have NB := gr_of hW1 (gr_alloc (gr_alloc (gr_alloc BW.out _) _) _)
  clear hW1 BW 
  generalize w.heap.size + 1 + 1 = gr at *
  generalize w.heap.size + 1 = gb at *
  obtain ⟨ga, hg0⟩ : ∃ g, g = w.heap.size := ⟨_, rfl⟩
  rw [← hg0] at Na ⊢
  rw [← hg0] at Dab Dar
  have Ea : w.heap.size ≤ ga := by omega
  clear hg0
  have Fa := Lib.hid Na
  have Fb := Lib.hid Nb
  have Fr := Lib.hid Nr
  have BW := Lib.hid NB
  clear NB Na Nb Nr
  by_cases hz : 20000 < z
  · have HZ := Lib.hid hz
    clear hz
    try simp only [List.append_eq, List.cons_append, List.nil_append]
    refine wp_region_noPanic ?_
    refine wp_region_held_drew (S := fun w' => At w' gr 28 #[.int .u64 (wd N 0 : Nat), .int .u64 (wd N 1 : Nat), .int .u64 (wd N 2 : Nat), .int .u64 (wd N 3 : Nat), .int .u64 (wd Y 0 : Nat), .int .u64 (wd Y 1 : Nat), .int .u64 (wd Y 2 : Nat), .int .u64 (wd Y 3 : Nat), .slice a l cap] ∧ At w' ga 25 #[.int .u64 (wd A 0 : Nat), .int .u64 (wd A 1 : Nat), .int .u64 (wd A 2 : Nat), .int .u64 (wd A 3 : Nat)] ∧ At w' gb 25 #[.int .u64 (wd B 0 : Nat), .int .u64 (wd B 1 : Nat), .int .u64 (wd B 2 : Nat), .int .u64 (wd B 3 : Nat)]) (by kernel_rfl) (⟨Fr.out.drew, Fa.out.drew, Fb.out.drew⟩) (fun _ => ?_)
    refine wpAnyH_cores (fuel := 0) (⟨0, 9, [], Kind.val (.bool true), false⟩ :: ⟨1, 10, [0], Kind.val (.bool false), true⟩ :: ⟨2, 11, [1], Kind.val (.bool false), true⟩ :: ⟨3, 12, [2], Kind.val (.agg #[.int .u64 (wd N 0 : Nat), .int .u64 (wd N 1 : Nat), .int .u64 (wd N 2 : Nat), .int .u64 (wd N 3 : Nat), .int .u64 (wd Y 0 : Nat), .int .u64 (wd Y 1 : Nat), .int .u64 (wd Y 2 : Nat), .int .u64 (wd Y 3 : Nat), .slice a l cap]), true⟩ :: ⟨4, 13, [2, 3], Kind.val (.int .i64 z), false⟩ :: ⟨5, 14, [2, 4], Kind.val (.bool true), true⟩ :: ⟨6, 15, [2, 5], Kind.val (.bool true), true⟩ :: ⟨7, 16, [6], Kind.val (.bool true), true⟩ :: ⟨8, 17, [7], Kind.val (undef), true⟩ :: ⟨9, 18, [7, 8], Kind.val (undef), true⟩ :: ⟨10, 19, [7, 8, 9], Kind.val (undef), true⟩ :: ⟨11, 20, [7, 10], Kind.val (undef), true⟩ :: ⟨12, 21, [7, 11], Kind.val (.bool true), true⟩ :: ⟨13, 22, [12], Kind.val (.bool true), true⟩ :: ⟨14, 23, [13], Kind.val (undef), true⟩ :: ⟨15, 24, [13, 14], Kind.val (undef), true⟩ :: ⟨16, 25, [13, 14, 15], Kind.val (undef), true⟩ :: ⟨17, 26, [13, 16], Kind.val (undef), true⟩ :: ⟨18, 27, [13, 17], Kind.val (.bool true), true⟩ :: []) _ _ W1 _ ?_ ?_ ?_ ?_ ?_ ?_ ?_ ?_ ?_ ?_ ?_
    · rfl
    · kernel_rfl
    · exact of_decide_eq_true (by kernel_rfl)
    · exact all_cons ⟨_, by rfl, by rfl⟩ (all_cons ⟨_, by rfl, by rfl⟩ (all_cons ⟨_, by rfl, by rfl⟩ (all_cons ⟨_, by rfl, by rfl⟩ (all_cons ⟨_, by rfl, by rfl⟩ (all_cons ⟨_, by rfl, by rfl⟩ (all_cons ⟨_, by rfl, by rfl⟩ (all_cons ⟨_, by rfl, by rfl⟩ (all_cons ⟨_, by rfl, by rfl⟩ (all_cons ⟨_, by rfl, by rfl⟩ (all_cons ⟨_, by rfl, by rfl⟩ (all_cons ⟨_, by rfl, by rfl⟩ (all_cons ⟨_, by rfl, by rfl⟩ (all_cons ⟨_, by rfl, by rfl⟩ (all_cons ⟨_, by rfl, by rfl⟩ (all_cons ⟨_, by rfl, by rfl⟩ (all_cons ⟨_, by rfl, by rfl⟩ (all_cons ⟨_, by rfl, by rfl⟩ (all_cons ⟨_, by rfl, by rfl⟩ (all_nil)))))))))))))))))))
    · exact fun _ hb => ⟨Fr.out.on hb, Fa.out.on hb, Fb.out.on hb⟩
    · exact (Below.refl _ _).drew
    · kernel_rfl
    · exact fun _ _ _ _ _ h => h
    · refine all_cons ?_ (all_cons ?_ (all_cons ?_ (all_cons ?_ (all_cons ?_ (all_cons ?_ (all_cons ?_ (all_cons ?_ (all_cons ?_ (all_cons ?_ (all_cons ?_ (all_cons ?_ (all_cons ?_ (all_cons ?_ (all_cons ?_ (all_cons ?_ (all_cons ?_ (all_cons ?_ (all_cons ?_ (all_nil)))))))))))))))))))
      · exact core_pureAs _ (by rfl)
      · exact coreG_un _ _ _ _ _ _ _ _ _ _ (by rfl) (by rfl) (wants_none) (known_core 0 9 _ _ (of_decide_eq_true (by rfl)) (by rfl) (by rfl) (by rfl)) (fun ρ w hx => by simp only [execOp, hx]; simp [go_sem])
      · exact coreG_move _ _ _ _ _ _ _ (by rfl) (by rfl) (wants_none) (known_core 1 10 _ _ (of_decide_eq_true (by rfl)) (by rfl) (by rfl) (by rfl))
      · exact coreG_held _ _ _ _ _ _ _ _ _ (by rfl) (by rfl) (wants_core 2 11 2 _ _ _ (by rfl) (by rfl) (by rfl) (known_core 2 11 _ _ (of_decide_eq_true (by rfl)) (by rfl) (by rfl) (by rfl)) _ (by rfl)) (known_old 5 _ (of_decide_eq_true (by rfl)) (by rfl)) (fun ρ w hx hs => loadR _ _ _ _ _ _ ρ w gr _ _ _ _ _ _ _ _ _ hx (hs.1))
      · exact core_pureAs _ (by rfl)
      · exact coreG_bin _ _ _ _ _ _ _ _ _ _ _ _ _ (by rfl) (by rfl) (wants_core 2 11 2 _ _ _ (by rfl) (by rfl) (by rfl) (known_core 2 11 _ _ (of_decide_eq_true (by rfl)) (by rfl) (by rfl) (by rfl)) _ (by rfl)) (known_core 4 13 _ _ (of_decide_eq_true (by rfl)) (by rfl) (by rfl) (by rfl)) (known_const _) ((fun ρ w hx hy => by simp only [execOp, hx, hy]; simp [go_sem, HZ.out]))
      · exact coreG_pick _ _ _ _ _ _ _ _ _ _ _ _ (by rfl) (by rfl) (wants_none) (known_core 2 11 _ _ (of_decide_eq_true (by rfl)) (by rfl) (by rfl) (by rfl)) (known_const _) (known_core 5 14 _ _ (of_decide_eq_true (by rfl)) (by rfl) (by rfl) (by rfl)) (by rfl)
      · exact coreG_move _ _ _ _ _ _ _ (by rfl) (by rfl) (wants_none) (known_core 6 15 _ _ (of_decide_eq_true (by rfl)) (by rfl) (by rfl) (by rfl))
      · exact coreG_skip _ _ _ _ _ _ (by rfl) (by rfl) (wants_core 7 16 7 _ _ _ (by rfl) (by rfl) (by rfl) (known_core 7 16 _ _ (of_decide_eq_true (by rfl)) (by rfl) (by rfl) (by rfl)) _ (by rfl))
      · exact coreG_skip _ _ _ _ _ _ (by rfl) (by rfl) (wants_core 7 16 7 _ _ _ (by rfl) (by rfl) (by rfl) (known_core 7 16 _ _ (of_decide_eq_true (by rfl)) (by rfl) (by rfl) (by rfl)) _ (by rfl))
      · exact coreG_skip _ _ _ _ _ _ (by rfl) (by rfl) (wants_core 7 16 7 _ _ _ (by rfl) (by rfl) (by rfl) (known_core 7 16 _ _ (of_decide_eq_true (by rfl)) (by rfl) (by rfl) (by rfl)) _ (by rfl))
      · exact coreG_skip _ _ _ _ _ _ (by rfl) (by rfl) (wants_core 7 16 7 _ _ _ (by rfl) (by rfl) (by rfl) (known_core 7 16 _ _ (of_decide_eq_true (by rfl)) (by rfl) (by rfl) (by rfl)) _ (by rfl))
      · exact coreG_pick _ _ _ _ _ _ _ _ _ _ _ _ (by rfl) (by rfl) (wants_none) (known_core 7 16 _ _ (of_decide_eq_true (by rfl)) (by rfl) (by rfl) (by rfl)) (known_const _) (known_core 11 20 _ _ (of_decide_eq_true (by rfl)) (by rfl) (by rfl) (by rfl)) (by rfl)
      · exact coreG_move _ _ _ _ _ _ _ (by rfl) (by rfl) (wants_none) (known_core 12 21 _ _ (of_decide_eq_true (by rfl)) (by rfl) (by rfl) (by rfl))
      · exact coreG_skip _ _ _ _ _ _ (by rfl) (by rfl) (wants_core 13 22 13 _ _ _ (by rfl) (by rfl) (by rfl) (known_core 13 22 _ _ (of_decide_eq_true (by rfl)) (by rfl) (by rfl) (by rfl)) _ (by rfl))
      · exact coreG_skip _ _ _ _ _ _ (by rfl) (by rfl) (wants_core 13 22 13 _ _ _ (by rfl) (by rfl) (by rfl) (known_core 13 22 _ _ (of_decide_eq_true (by rfl)) (by rfl) (by rfl) (by rfl)) _ (by rfl))
      · exact coreG_skip _ _ _ _ _ _ (by rfl) (by rfl) (wants_core 13 22 13 _ _ _ (by rfl) (by rfl) (by rfl) (known_core 13 22 _ _ (of_decide_eq_true (by rfl)) (by rfl) (by rfl) (by rfl)) _ (by rfl))
      · exact coreG_skip _ _ _ _ _ _ (by rfl) (by rfl) (wants_core 13 22 13 _ _ _ (by rfl) (by rfl) (by rfl) (known_core 13 22 _ _ (of_decide_eq_true (by rfl)) (by rfl) (by rfl) (by rfl)) _ (by rfl))
      · exact coreG_pick _ _ _ _ _ _ _ _ _ _ _ _ (by rfl) (by rfl) (wants_none) (known_core 13 22 _ _ (of_decide_eq_true (by rfl)) (by rfl) (by rfl) (by rfl)) (known_const _) (known_core 17 26 _ _ (of_decide_eq_true (by rfl)) (by rfl) (by rfl) (by rfl)) (by rfl)
    · refine all_cons ?_ (all_cons ?_ (all_cons ?_ (all_cons ?_ (all_cons ?_ (all_cons ?_ (all_cons ?_ (all_cons ?_ (all_cons ?_ (all_cons ?_ (all_cons ?_ (all_cons ?_ (all_cons ?_ (all_cons ?_ (all_cons ?_ (all_cons ?_ (all_cons ?_ (all_cons ?_ (all_cons ?_ (all_nil)))))))))))))))))))
      · exact fun _ => coreG_call _ 17 _ _ [] _ _ _ _ _ _ _ (by rfl) Try.func17 (by kernel_rfl) (by rfl) (by rfl) (wants_none) .nil (alive7_any)
      · exact core_stepAs _ (by rfl)
      · exact core_stepAs _ (by rfl)
      · exact core_stepAs _ (by rfl)
      · exact fun _ => coreG_callB _ 12 _ _ [.tmp 12] _ _ _ _ _ _ _ (by rfl) Try.func12 (by kernel_rfl) (by rfl) (by rfl) (wants_core 2 11 2 _ _ _ (by rfl) (by rfl) (by rfl) (known_core 2 11 _ _ (of_decide_eq_true (by rfl)) (by rfl) (by rfl) (by rfl)) _ (by rfl)) (.cons (known_core 3 12 _ _ (of_decide_eq_true (by rfl)) (by rfl) (by rfl) (by rfl)) .nil) ((fun u hb => HSZ.out u (bel_tr BW.out hb)))
      · exact core_stepAs _ (by rfl)
      · exact core_stepAs _ (by rfl)
      · exact core_stepAs _ (by rfl)
      · exact core_stepAs _ (by rfl)
      · exact core_stepAs _ (by rfl)
      · exact core_stepAs _ (by rfl)
      · exact core_stepAs _ (by rfl)
      · exact core_stepAs _ (by rfl)
      · exact core_stepAs _ (by rfl)
      · exact core_stepAs _ (by rfl)
      · exact core_stepAs _ (by rfl)
      · exact core_stepAs _ (by rfl)
      · exact core_stepAs _ (by rfl)
      · exact core_stepAs _ (by rfl)
    intro vs y2 hc
    obtain ⟨vv0, vv1, vv2, vv3, vv4, vv5, vv6, vv7, vv8, vv9, vv10, vv11, vv12, vv13, vv14, vv15, vv16, vv17, vv18, rfl⟩ := len19 vs hc.lv
    have qq0 : vv0 = .bool true := by obtain ⟨xx, hx, hy⟩ := hc.ok 0 _ rfl rfl; exact (Option.some.inj (show some vv0 = some xx from hx)).trans hy
    have qq1 : vv1 = .bool false := by obtain ⟨xx, hx, hy⟩ := hc.ok 1 _ rfl rfl; exact (Option.some.inj (show some vv1 = some xx from hx)).trans hy
    have qq2 : vv2 = .bool false := by obtain ⟨xx, hx, hy⟩ := hc.ok 2 _ rfl rfl; exact (Option.some.inj (show some vv2 = some xx from hx)).trans hy
    have qq3 : vv3 = .agg #[.int .u64 (wd N 0 : Nat), .int .u64 (wd N 1 : Nat), .int .u64 (wd N 2 : Nat), .int .u64 (wd N 3 : Nat), .int .u64 (wd Y 0 : Nat), .int .u64 (wd Y 1 : Nat), .int .u64 (wd Y 2 : Nat), .int .u64 (wd Y 3 : Nat), .slice a l cap] := by obtain ⟨xx, hx, hy⟩ := hc.ok 3 _ rfl rfl; exact (Option.some.inj (show some vv3 = some xx from hx)).trans hy
    have qq4 : vv4 = .int .i64 z := by obtain ⟨xx, hx, hy⟩ := hc.ok 4 _ rfl rfl; exact (Option.some.inj (show some vv4 = some xx from hx)).trans hy
    have qq5 : vv5 = .bool true := by obtain ⟨xx, hx, hy⟩ := hc.ok 5 _ rfl rfl; exact (Option.some.inj (show some vv5 = some xx from hx)).trans hy
    have qq6 : vv6 = .bool true := by obtain ⟨xx, hx, hy⟩ := hc.ok 6 _ rfl rfl; exact (Option.some.inj (show some vv6 = some xx from hx)).trans hy
    have qq7 : vv7 = .bool true := by obtain ⟨xx, hx, hy⟩ := hc.ok 7 _ rfl rfl; exact (Option.some.inj (show some vv7 = some xx from hx)).trans hy
    have qq8 : vv8 = undef := by obtain ⟨xx, hx, hy⟩ := hc.ok 8 _ rfl rfl; exact (Option.some.inj (show some vv8 = some xx from hx)).trans hy
    have qq9 : vv9 = undef := by obtain ⟨xx, hx, hy⟩ := hc.ok 9 _ rfl rfl; exact (Option.some.inj (show some vv9 = some xx from hx)).trans hy
    have qq10 : vv10 = undef := by obtain ⟨xx, hx, hy⟩ := hc.ok 10 _ rfl rfl; exact (Option.some.inj (show some vv10 = some xx from hx)).trans hy
    have qq11 : vv11 = undef := by obtain ⟨xx, hx, hy⟩ := hc.ok 11 _ rfl rfl; exact (Option.some.inj (show some vv11 = some xx from hx)).trans hy
    have qq12 : vv12 = .bool true := by obtain ⟨xx, hx, hy⟩ := hc.ok 12 _ rfl rfl; exact (Option.some.inj (show some vv12 = some xx from hx)).trans hy
    have qq13 : vv13 = .bool true := by obtain ⟨xx, hx, hy⟩ := hc.ok 13 _ rfl rfl; exact (Option.some.inj (show some vv13 = some xx from hx)).trans hy
    have qq14 : vv14 = undef := by obtain ⟨xx, hx, hy⟩ := hc.ok 14 _ rfl rfl; exact (Option.some.inj (show some vv14 = some xx from hx)).trans hy
    have qq15 : vv15 = undef := by obtain ⟨xx, hx, hy⟩ := hc.ok 15 _ rfl rfl; exact (Option.some.inj (show some vv15 = some xx from hx)).trans hy
    have qq16 : vv16 = undef := by obtain ⟨xx, hx, hy⟩ := hc.ok 16 _ rfl rfl; exact (Option.some.inj (show some vv16 = some xx from hx)).trans hy
    have qq17 : vv17 = undef := by obtain ⟨xx, hx, hy⟩ := hc.ok 17 _ rfl rfl; exact (Option.some.inj (show some vv17 = some xx from hx)).trans hy
    have qq18 : vv18 = .bool true := by obtain ⟨xx, hx, hy⟩ := hc.ok 18 _ rfl rfl; exact (Option.some.inj (show some vv18 = some xx from hx)).trans hy
    have BZ := hc.bel
    clear hc
    have Na := Fa.out.on BZ
    have Nb := Fb.out.on BZ
    have Nr := Fr.out.on BZ
    have NB := bel_tr BW.out BZ
    clear BW BZ Fa Fb Fr
    subst qq0 qq1 qq2 qq3 qq4 qq5 qq6 qq7 qq8 qq9 qq10 qq11 qq12 qq13 qq14 qq15 qq16 qq17 qq18
    simp only [List.map_cons, List.map_nil, over, Act.put, List.setIfInBounds_toArray, List.set_cons_zero, List.set_cons_succ]
    refine wpAnyH_done (by kernel_rfl) ?_ _
    refine NoPanic.normal ?_
    have Fa := Lib.hid Na
    have Fb := Lib.hid Nb
    have Fr := Lib.hid Nr
    have BW := Lib.hid NB
    clear NB Na Nb Nr
    go_wp2_with fail
    refine (alive7_any _).mono ?_
    rintro e v3 ⟨rfl, z3⟩
    have Na := Lib.hid (Fa.out.on z3)
    have Nb := Lib.hid (Fb.out.on z3)
    have Nr := Lib.hid (Fr.out.on z3)
    have NB := Lib.hid (bel_tr BW.out z3)
    clear BW z3 Fa Fb Fr
    have Fa := Na
    have Fb := Nb
    have Fr := Nr
    have BW := NB
    clear NB Na Nb Nr
    go_wp2
    go_ret
    exact ⟨rfl, BW.out⟩
  · have HZ := Lib.hid hz
    clear hz
    by_cases hA1 : 1 < A
    · have HK := Lib.hid (cmpN_pos0 hA1); have HA1 := Lib.hid hA1
      clear hA1
      generalize cmpN A 1 = ka at *
      by_cases hB1 : 1 < B
      · have HK2 := Lib.hid (cmpN_pos0 hB1); have HB1 := Lib.hid hB1
        clear hB1
        generalize cmpN B 1 = kb at *
        try simp only [List.append_eq, List.cons_append, List.nil_append]
        refine wp_region_noPanic ?_
        refine wp_region_held_drew (S := fun w' => At w' gr 28 #[.int .u64 (wd N 0 : Nat), .int .u64 (wd N 1 : Nat), .int .u64 (wd N 2 : Nat), .int .u64 (wd N 3 : Nat), .int .u64 (wd Y 0 : Nat), .int .u64 (wd Y 1 : Nat), .int .u64 (wd Y 2 : Nat), .int .u64 (wd Y 3 : Nat), .slice a l cap] ∧ At w' ga 25 #[.int .u64 (wd A 0 : Nat), .int .u64 (wd A 1 : Nat), .int .u64 (wd A 2 : Nat), .int .u64 (wd A 3 : Nat)] ∧ At w' gb 25 #[.int .u64 (wd B 0 : Nat), .int .u64 (wd B 1 : Nat), .int .u64 (wd B 2 : Nat), .int .u64 (wd B 3 : Nat)]) (by kernel_rfl) (⟨Fr.out.drew, Fa.out.drew, Fb.out.drew⟩) (fun _ => ?_)
        refine wpAnyH_cores (fuel := 0) (⟨0, 9, [], Kind.val (.bool true), false⟩ :: ⟨1, 10, [0], Kind.val (.bool false), true⟩ :: ⟨2, 11, [1], Kind.val (.bool false), true⟩ :: ⟨3, 12, [2], Kind.val (.agg #[.int .u64 (wd N 0 : Nat), .int .u64 (wd N 1 : Nat), .int .u64 (wd N 2 : Nat), .int .u64 (wd N 3 : Nat), .int .u64 (wd Y 0 : Nat), .int .u64 (wd Y 1 : Nat), .int .u64 (wd Y 2 : Nat), .int .u64 (wd Y 3 : Nat), .slice a l cap]), true⟩ :: ⟨4, 13, [2, 3], Kind.val (.int .i64 z), false⟩ :: ⟨5, 14, [2, 4], Kind.val (.bool false), true⟩ :: ⟨6, 15, [2, 5], Kind.val (.bool false), true⟩ :: ⟨7, 16, [6], Kind.val (.bool false), true⟩ :: ⟨8, 17, [7], Kind.val (.agg #[.int .u64 (wd A 0 : Nat), .int .u64 (wd A 1 : Nat), .int .u64 (wd A 2 : Nat), .int .u64 (wd A 3 : Nat)]), true⟩ :: ⟨9, 18, [7, 8], Kind.val (.agg #[.int .u64 (wd 1 0 : Nat), .int .u64 (wd 1 1 : Nat), .int .u64 (wd 1 2 : Nat), .int .u64 (wd 1 3 : Nat)]), false⟩ :: ⟨10, 19, [7, 8, 9], Kind.val (.int .i64 ka), false⟩ :: ⟨11, 20, [7, 10], Kind.val (.bool false), true⟩ :: ⟨12, 21, [7, 11], Kind.val (.bool false), true⟩ :: ⟨13, 22, [12], Kind.val (.bool false), true⟩ :: ⟨14, 23, [13], Kind.val (.agg #[.int .u64 (wd B 0 : Nat), .int .u64 (wd B 1 : Nat), .int .u64 (wd B 2 : Nat), .int .u64 (wd B 3 : Nat)]), true⟩ :: ⟨15, 24, [13, 14], Kind.val (.agg #[.int .u64 (wd 1 0 : Nat), .int .u64 (wd 1 1 : Nat), .int .u64 (wd 1 2 : Nat), .int .u64 (wd 1 3 : Nat)]), false⟩ :: ⟨16, 25, [13, 14, 15], Kind.val (.int .i64 kb), false⟩ :: ⟨17, 26, [13, 16], Kind.val (.bool false), true⟩ :: ⟨18, 27, [13, 17], Kind.val (.bool false), true⟩ :: []) _ _ W1 _ ?_ ?_ ?_ ?_ ?_ ?_ ?_ ?_ ?_ ?_ ?_
        · rfl
        · kernel_rfl
        · exact of_decide_eq_true (by kernel_rfl)
        · exact all_cons ⟨_, by rfl, by rfl⟩ (all_cons ⟨_, by rfl, by rfl⟩ (all_cons ⟨_, by rfl, by rfl⟩ (all_cons ⟨_, by rfl, by rfl⟩ (all_cons ⟨_, by rfl, by rfl⟩ (all_cons ⟨_, by rfl, by rfl⟩ (all_cons ⟨_, by rfl, by rfl⟩ (all_cons ⟨_, by rfl, by rfl⟩ (all_cons ⟨_, by rfl, by rfl⟩ (all_cons ⟨_, by rfl, by rfl⟩ (all_cons ⟨_, by rfl, by rfl⟩ (all_cons ⟨_, by rfl, by rfl⟩ (all_cons ⟨_, by rfl, by rfl⟩ (all_cons ⟨_, by rfl, by rfl⟩ (all_cons ⟨_, by rfl, by rfl⟩ (all_cons ⟨_, by rfl, by rfl⟩ (all_cons ⟨_, by rfl, by rfl⟩ (all_cons ⟨_, by rfl, by rfl⟩ (all_cons ⟨_, by rfl, by rfl⟩ (all_nil)))))))))))))))))))
        · exact fun _ hb => ⟨Fr.out.on hb, Fa.out.on hb, Fb.out.on hb⟩
        · exact (Below.refl _ _).drew
        · kernel_rfl
        · exact fun _ _ _ _ _ h => h
        · refine all_cons ?_ (all_cons ?_ (all_cons ?_ (all_cons ?_ (all_cons ?_ (all_cons ?_ (all_cons ?_ (all_cons ?_ (all_cons ?_ (all_cons ?_ (all_cons ?_ (all_cons ?_ (all_cons ?_ (all_cons ?_ (all_cons ?_ (all_cons ?_ (all_cons ?_ (all_cons ?_ (all_cons ?_ (all_nil)))))))))))))))))))
          · exact core_pureAs _ (by rfl)
          · exact coreG_un _ _ _ _ _ _ _ _ _ _ (by rfl) (by rfl) (wants_none) (known_core 0 9 _ _ (of_decide_eq_true (by rfl)) (by rfl) (by rfl) (by rfl)) (fun ρ w hx => by simp only [execOp, hx]; simp [go_sem])
          · exact coreG_move _ _ _ _ _ _ _ (by rfl) (by rfl) (wants_none) (known_core 1 10 _ _ (of_decide_eq_true (by rfl)) (by rfl) (by rfl) (by rfl))
          · exact coreG_held _ _ _ _ _ _ _ _ _ (by rfl) (by rfl) (wants_core 2 11 2 _ _ _ (by rfl) (by rfl) (by rfl) (known_core 2 11 _ _ (of_decide_eq_true (by rfl)) (by rfl) (by rfl) (by rfl)) _ (by rfl)) (known_old 5 _ (of_decide_eq_true (by rfl)) (by rfl)) (fun ρ w hx hs => loadR _ _ _ _ _ _ ρ w gr _ _ _ _ _ _ _ _ _ hx (hs.1))
          · exact core_pureAs _ (by rfl)
          · exact coreG_bin _ _ _ _ _ _ _ _ _ _ _ _ _ (by rfl) (by rfl) (wants_core 2 11 2 _ _ _ (by rfl) (by rfl) (by rfl) (known_core 2 11 _ _ (of_decide_eq_true (by rfl)) (by rfl) (by rfl) (by rfl)) _ (by rfl)) (known_core 4 13 _ _ (of_decide_eq_true (by rfl)) (by rfl) (by rfl) (by rfl)) (known_const _) ((fun ρ w hx hy => by simp only [execOp, hx, hy]; simp [go_sem, HZ.out]))
          · exact coreG_pick _ _ _ _ _ _ _ _ _ _ _ _ (by rfl) (by rfl) (wants_none) (known_core 2 11 _ _ (of_decide_eq_true (by rfl)) (by rfl) (by rfl) (by rfl)) (known_const _) (known_core 5 14 _ _ (of_decide_eq_true (by rfl)) (by rfl) (by rfl) (by rfl)) (by rfl)
          · exact coreG_move _ _ _ _ _ _ _ (by rfl) (by rfl) (wants_none) (known_core 6 15 _ _ (of_decide_eq_true (by rfl)) (by rfl) (by rfl) (by rfl))
          · exact coreG_loadP _ _ _ _ _ _ ga _ _ _ _ (by rfl) (by rfl) (wants_core 7 16 7 _ _ _ (by rfl) (by rfl) (by rfl) (known_core 7 16 _ _ (of_decide_eq_true (by rfl)) (by rfl) (by rfl) (by rfl)) _ (by rfl)) (known_old 3 _ (of_decide_eq_true (by rfl)) (by rfl)) (fun _ hs => hs.2.1)
          · exact core_pureAs _ (by rfl)
          · exact core_pureAs _ (by rfl)
          · exact coreG_bin _ _ _ _ _ _ _ _ _ _ _ _ _ (by rfl) (by rfl) (wants_core 7 16 7 _ _ _ (by rfl) (by rfl) (by rfl) (known_core 7 16 _ _ (of_decide_eq_true (by rfl)) (by rfl) (by rfl) (by rfl)) _ (by rfl)) (known_core 10 19 _ _ (of_decide_eq_true (by rfl)) (by rfl) (by rfl) (by rfl)) (known_const _) ((fun ρ w hx hy => by simp only [execOp, hx, hy]; simp [go_sem, HK.out]))
          · exact coreG_pick _ _ _ _ _ _ _ _ _ _ _ _ (by rfl) (by rfl) (wants_none) (known_core 7 16 _ _ (of_decide_eq_true (by rfl)) (by rfl) (by rfl) (by rfl)) (known_const _) (known_core 11 20 _ _ (of_decide_eq_true (by rfl)) (by rfl) (by rfl) (by rfl)) (by rfl)
          · exact coreG_move _ _ _ _ _ _ _ (by rfl) (by rfl) (wants_none) (known_core 12 21 _ _ (of_decide_eq_true (by rfl)) (by rfl) (by rfl) (by rfl))
          · exact coreG_loadP _ _ _ _ _ _ gb _ _ _ _ (by rfl) (by rfl) (wants_core 13 22 13 _ _ _ (by rfl) (by rfl) (by rfl) (known_core 13 22 _ _ (of_decide_eq_true (by rfl)) (by rfl) (by rfl) (by rfl)) _ (by rfl)) (known_old 4 _ (of_decide_eq_true (by rfl)) (by rfl)) (fun _ hs => hs.2.2)
          · exact core_pureAs _ (by rfl)
          · exact core_pureAs _ (by rfl)
          · exact coreG_bin _ _ _ _ _ _ _ _ _ _ _ _ _ (by rfl) (by rfl) (wants_core 13 22 13 _ _ _ (by rfl) (by rfl) (by rfl) (known_core 13 22 _ _ (of_decide_eq_true (by rfl)) (by rfl) (by rfl) (by rfl)) _ (by rfl)) (known_core 16 25 _ _ (of_decide_eq_true (by rfl)) (by rfl) (by rfl) (by rfl)) (known_const _) ((fun ρ w hx hy => by simp only [execOp, hx, hy]; simp [go_sem, HK2.out]))
          · exact coreG_pick _ _ _ _ _ _ _ _ _ _ _ _ (by rfl) (by rfl) (wants_none) (known_core 13 22 _ _ (of_decide_eq_true (by rfl)) (by rfl) (by rfl) (by rfl)) (known_const _) (known_core 17 26 _ _ (of_decide_eq_true (by rfl)) (by rfl) (by rfl) (by rfl)) (by rfl)
        · refine all_cons ?_ (all_cons ?_ (all_cons ?_ (all_cons ?_ (all_cons ?_ (all_cons ?_ (all_cons ?_ (all_cons ?_ (all_cons ?_ (all_cons ?_ (all_cons ?_ (all_cons ?_ (all_cons ?_ (all_cons ?_ (all_cons ?_ (all_cons ?_ (all_cons ?_ (all_cons ?_ (all_cons ?_ (all_nil)))))))))))))))))))
          · exact fun _ => coreG_call _ 17 _ _ [] _ _ _ _ _ _ _ (by rfl) Try.func17 (by kernel_rfl) (by rfl) (by rfl) (wants_none) .nil (alive7_any)
          · exact core_stepAs _ (by rfl)
          · exact core_stepAs _ (by rfl)
          · exact core_stepAs _ (by rfl)
          · exact fun _ => coreG_callB _ 12 _ _ [.tmp 12] _ _ _ _ _ _ _ (by rfl) Try.func12 (by kernel_rfl) (by rfl) (by rfl) (wants_core 2 11 2 _ _ _ (by rfl) (by rfl) (by rfl) (known_core 2 11 _ _ (of_decide_eq_true (by rfl)) (by rfl) (by rfl) (by rfl)) _ (by rfl)) (.cons (known_core 3 12 _ _ (of_decide_eq_true (by rfl)) (by rfl) (by rfl) (by rfl)) .nil) ((fun u hb => HSZ.out u (bel_tr BW.out hb)))
          · exact core_stepAs _ (by rfl)
          · exact core_stepAs _ (by rfl)
          · exact core_stepAs _ (by rfl)
          · exact core_stepAs _ (by rfl)
          · exact fun _ => coreG_call _ 19 _ _ [.const (.int .u64 1)] _ _ _ _ _ _ _ (by rfl) Try.func19 (by kernel_rfl) (by rfl) (by rfl) (wants_core 7 16 7 _ _ _ (by rfl) (by rfl) (by rfl) (known_core 7 16 _ _ (of_decide_eq_true (by rfl)) (by rfl) (by rfl) (by rfl)) _ (by rfl)) (.cons (known_const _) .nil) (HO.out)
          · exact fun _ => coreG_call _ 18 _ _ [.tmp 17, .tmp 18] _ _ _ _ _ _ _ (by rfl) Try.func18 (by kernel_rfl) (by rfl) (by rfl) (wants_core 7 16 7 _ _ _ (by rfl) (by rfl) (by rfl) (known_core 7 16 _ _ (of_decide_eq_true (by rfl)) (by rfl) (by rfl) (by rfl)) _ (by rfl)) (.cons (known_core 8 17 _ _ (of_decide_eq_true (by rfl)) (by rfl) (by rfl) (by rfl)) (.cons (known_core 9 18 _ _ (of_decide_eq_true (by rfl)) (by rfl) (by rfl) (by rfl)) .nil)) (HKA.out)
          · exact core_stepAs _ (by rfl)
          · exact core_stepAs _ (by rfl)
          · exact core_stepAs _ (by rfl)
          · exact core_stepAs _ (by rfl)
          · exact fun _ => coreG_call _ 19 _ _ [.const (.int .u64 1)] _ _ _ _ _ _ _ (by rfl) Try.func19 (by kernel_rfl) (by rfl) (by rfl) (wants_core 13 22 13 _ _ _ (by rfl) (by rfl) (by rfl) (known_core 13 22 _ _ (of_decide_eq_true (by rfl)) (by rfl) (by rfl) (by rfl)) _ (by rfl)) (.cons (known_const _) .nil) (HO.out)
          · exact fun _ => coreG_call _ 18 _ _ [.tmp 23, .tmp 24] _ _ _ _ _ _ _ (by rfl) Try.func18 (by kernel_rfl) (by rfl) (by rfl) (wants_core 13 22 13 _ _ _ (by rfl) (by rfl) (by rfl) (known_core 13 22 _ _ (of_decide_eq_true (by rfl)) (by rfl) (by rfl) (by rfl)) _ (by rfl)) (.cons (known_core 14 23 _ _ (of_decide_eq_true (by rfl)) (by rfl) (by rfl) (by rfl)) (.cons (known_core 15 24 _ _ (of_decide_eq_true (by rfl)) (by rfl) (by rfl) (by rfl)) .nil)) (HKB.out)
          · exact core_stepAs _ (by rfl)
          · exact core_stepAs _ (by rfl)
        intro vs y2 hc
        obtain ⟨vv0, vv1, vv2, vv3, vv4, vv5, vv6, vv7, vv8, vv9, vv10, vv11, vv12, vv13, vv14, vv15, vv16, vv17, vv18, rfl⟩ := len19 vs hc.lv
        have qq0 : vv0 = .bool true := by obtain ⟨xx, hx, hy⟩ := hc.ok 0 _ rfl rfl; exact (Option.some.inj (show some vv0 = some xx from hx)).trans hy
        have qq1 : vv1 = .bool false := by obtain ⟨xx, hx, hy⟩ := hc.ok 1 _ rfl rfl; exact (Option.some.inj (show some vv1 = some xx from hx)).trans hy
        have qq2 : vv2 = .bool false := by obtain ⟨xx, hx, hy⟩ := hc.ok 2 _ rfl rfl; exact (Option.some.inj (show some vv2 = some xx from hx)).trans hy
        have qq3 : vv3 = .agg #[.int .u64 (wd N 0 : Nat), .int .u64 (wd N 1 : Nat), .int .u64 (wd N 2 : Nat), .int .u64 (wd N 3 : Nat), .int .u64 (wd Y 0 : Nat), .int .u64 (wd Y 1 : Nat), .int .u64 (wd Y 2 : Nat), .int .u64 (wd Y 3 : Nat), .slice a l cap] := by obtain ⟨xx, hx, hy⟩ := hc.ok 3 _ rfl rfl; exact (Option.some.inj (show some vv3 = some xx from hx)).trans hy
        have qq4 : vv4 = .int .i64 z := by obtain ⟨xx, hx, hy⟩ := hc.ok 4 _ rfl rfl; exact (Option.some.inj (show some vv4 = some xx from hx)).trans hy
        have qq5 : vv5 = .bool false := by obtain ⟨xx, hx, hy⟩ := hc.ok 5 _ rfl rfl; exact (Option.some.inj (show some vv5 = some xx from hx)).trans hy
        have qq6 : vv6 = .bool false := by obtain ⟨xx, hx, hy⟩ := hc.ok 6 _ rfl rfl; exact (Option.some.inj (show some vv6 = some xx from hx)).trans hy
        have qq7 : vv7 = .bool false := by obtain ⟨xx, hx, hy⟩ := hc.ok 7 _ rfl rfl; exact (Option.some.inj (show some vv7 = some xx from hx)).trans hy
        have qq8 : vv8 = .agg #[.int .u64 (wd A 0 : Nat), .int .u64 (wd A 1 : Nat), .int .u64 (wd A 2 : Nat), .int .u64 (wd A 3 : Nat)] := by obtain ⟨xx, hx, hy⟩ := hc.ok 8 _ rfl rfl; exact (Option.some.inj (show some vv8 = some xx from hx)).trans hy
        have qq9 : vv9 = .agg #[.int .u64 (wd 1 0 : Nat), .int .u64 (wd 1 1 : Nat), .int .u64 (wd 1 2 : Nat), .int .u64 (wd 1 3 : Nat)] := by obtain ⟨xx, hx, hy⟩ := hc.ok 9 _ rfl rfl; exact (Option.some.inj (show some vv9 = some xx from hx)).trans hy
        have qq10 : vv10 = .int .i64 ka := by obtain ⟨xx, hx, hy⟩ := hc.ok 10 _ rfl rfl; exact (Option.some.inj (show some vv10 = some xx from hx)).trans hy
        have qq11 : vv11 = .bool false := by obtain ⟨xx, hx, hy⟩ := hc.ok 11 _ rfl rfl; exact (Option.some.inj (show some vv11 = some xx from hx)).trans hy
        have qq12 : vv12 = .bool false := by obtain ⟨xx, hx, hy⟩ := hc.ok 12 _ rfl rfl; exact (Option.some.inj (show some vv12 = some xx from hx)).trans hy
        have qq13 : vv13 = .bool false := by obtain ⟨xx, hx, hy⟩ := hc.ok 13 _ rfl rfl; exact (Option.some.inj (show some vv13 = some xx from hx)).trans hy
        have qq14 : vv14 = .agg #[.int .u64 (wd B 0 : Nat), .int .u64 (wd B 1 : Nat), .int .u64 (wd B 2 : Nat), .int .u64 (wd B 3 : Nat)] := by obtain ⟨xx, hx, hy⟩ := hc.ok 14 _ rfl rfl; exact (Option.some.inj (show some vv14 = some xx from hx)).trans hy
        have qq15 : vv15 = .agg #[.int .u64 (wd 1 0 : Nat), .int .u64 (wd 1 1 : Nat), .int .u64 (wd 1 2 : Nat), .int .u64 (wd 1 3 : Nat)] := by obtain ⟨xx, hx, hy⟩ := hc.ok 15 _ rfl rfl; exact (Option.some.inj (show some vv15 = some xx from hx)).trans hy
        have qq16 : vv16 = .int .i64 kb := by obtain ⟨xx, hx, hy⟩ := hc.ok 16 _ rfl rfl; exact (Option.some.inj (show some vv16 = some xx from hx)).trans hy
        have qq17 : vv17 = .bool false := by obtain ⟨xx, hx, hy⟩ := hc.ok 17 _ rfl rfl; exact (Option.some.inj (show some vv17 = some xx from hx)).trans hy
        have qq18 : vv18 = .bool false := by obtain ⟨xx, hx, hy⟩ := hc.ok 18 _ rfl rfl; exact (Option.some.inj (show some vv18 = some xx from hx)).trans hy
        have BZ := hc.bel
        clear hc
        have Na := Fa.out.on BZ
        have Nb := Fb.out.on BZ
        have Nr := Fr.out.on BZ
        have NB := bel_tr BW.out BZ
        clear BW BZ Fa Fb Fr
        subst qq0 qq1 qq2 qq3 qq4 qq5 qq6 qq7 qq8 qq9 qq10 qq11 qq12 qq13 qq14 qq15 qq16 qq17 qq18
        simp only [List.map_cons, List.map_nil, over, Act.put, List.setIfInBounds_toArray, List.set_cons_zero, List.set_cons_succ]
        refine wpAnyH_done (by kernel_rfl) ?_ _
        refine NoPanic.normal ?_
        have Fa := Lib.hid Na
        have Fb := Lib.hid Nb
        have Fr := Lib.hid Nr
        have BW := Lib.hid NB
        clear NB Na Nb Nr
        obtain ⟨Lo, Hi, hLo, hHi, hm, CM⟩ := mul_ex A B HA.out HB.out
        have HCM := Lib.hid CM; have HMM := Lib.hid hm; have HLO := Lib.hid hLo; have EQZ := Lib.hid (eqZ Hi hHi)
        clear CM hm hLo hHi
        have La := Fa.out.lt
        have ca0 := Fa.out.c0
        have ca1 := Fa.out.c1
        have ca2 := Fa.out.c2
        have ca3 := Fa.out.c3
        have Lb := Fb.out.lt
        have cb0 := Fb.out.c0
        have cb1 := Fb.out.c1
        have cb2 := Fb.out.c2
        have cb3 := Fb.out.c3
        go_wp2_with fail
        clear La ca0 ca1 ca2 ca3 Lb cb0 cb1 cb2 cb3
        refine (HCM.out _).mono ?_
        rintro e v3 ⟨rfl, z3⟩
        have Na := Lib.hid (Fa.out.on z3)
        have Nb := Lib.hid (Fb.out.on z3)
        have Nr := Lib.hid (Fr.out.on z3)
        have NB := Lib.hid (bel_tr BW.out z3)
        clear BW z3 Fa Fb Fr
        have Fa := Na
        have Fb := Nb
        have Fr := Nr
        have BW := NB
        clear NB Na Nb Nr
        go_upto_region 4 with fail
        have Dan : ga ≠ v3.heap.size := by have := Fa.out.lt; omega
        have Dbn : gb ≠ v3.heap.size := by have := Fb.out.lt; omega
        have Drn : gr ≠ v3.heap.size := by have := Fr.out.lt; omega
        have Dah : ga ≠ v3.heap.size + 1 := by have := Fa.out.lt; omega
        have Dbh : gb ≠ v3.heap.size + 1 := by have := Fb.out.lt; omega
        have Drh : gr ≠ v3.heap.size + 1 := by have := Fr.out.lt; omega
        generalize hW4 : ((v3.alloc (.cells #[.int .u64 (wd Lo 0 : Nat), .int .u64 (wd Lo 1 : Nat), .int .u64 (wd Lo 2 : Nat), .int .u64 (wd Lo 3 : Nat)] 25)).alloc (.cells #[.int .u64 (wd Hi 0 : Nat), .int .u64 (wd Hi 1 : Nat), .int .u64 (wd Hi 2 : Nat), .int .u64 (wd Hi 3 : Nat)] 25)) = W4 at *
        have Nn : At W4 (v3.heap.size) _ _ := at_of hW4 ((At.at_ _ _ _ _ (by simp)).alloc _)
        have Nh : At W4 (v3.heap.size + 1) _ _ := at_of hW4 (At.at_ _ _ _ _ (by simp))
        have Na := at_of hW4 ((Fa.out.alloc _).alloc _)
        have Nb := at_of hW4 ((Fb.out.alloc _).alloc _)
        have Nr := at_of hW4 ((Fr.out.alloc _).alloc _)
        have NB := gr_of hW4 (gr_alloc (gr_alloc BW.out _) _)
        clear hW4 BW Fa Fb Fr
        generalize v3.heap.size + 1 = gh at *
        generalize v3.heap.size = gn at *
        have Fa := Lib.hid Na
        have Fb := Lib.hid Nb
        have Fr := Lib.hid Nr
        have Fn := Lib.hid Nn
        have Fh := Lib.hid Nh
        have BW := Lib.hid NB
        clear NB Na Nb Nr Nn Nh
        have eqz := EQZ.out
        by_cases hh : Hi = 0
        · rw [decide_eq_true hh] at eqz
          have hL : A * B = Lo := by have := HMM.out; rw [hh] at this; omega
          have hnp : ¬ Pr.Pri Lo := hL ▸ notpri_mul HA1.out HB1.out
          have hho : (Pr.Rsn.mk Lo Y ps).holds = false := by
            rcases hb : (Pr.Rsn.mk Lo Y ps).holds with _ | _
            · rfl
            · exact absurd (Pr.holds_pri hb) hnp
          have CC := HCK.out Lo HLO.out
          rw [hho] at CC
          have HCC := Lib.hid CC; have HNP := Lib.hid hnp
          have HBI := Lib.hid (fun w => bits_any Lo HLO.out w)
          clear hh hL hnp hho CC
          have Lh := Fh.out.lt
          have ch0 := Fh.out.c0
          have ch1 := Fh.out.c1
          have ch2 := Fh.out.c2
          have ch3 := Fh.out.c3
          have Ln := Fn.out.lt
          have cn0 := Fn.out.c0
          have cn1 := Fn.out.c1
          have cn2 := Fn.out.c2
          have cn3 := Fn.out.c3
          have Lr := Fr.out.lt
          have cr0 : W4.cell? ⟨gr, 0, none⟩ = some (.int .u64 (wd N 0 : Nat)) := Fr.out.cell 0
          have cr1 : W4.cell? ⟨gr, 1, none⟩ = some (.int .u64 (wd N 1 : Nat)) := Fr.out.cell 1
          have cr2 : W4.cell? ⟨gr, 2, none⟩ = some (.int .u64 (wd N 2 : Nat)) := Fr.out.cell 2
          have cr3 : W4.cell? ⟨gr, 3, none⟩ = some (.int .u64 (wd N 3 : Nat)) := Fr.out.cell 3
          have cr4 : W4.cell? ⟨gr, 4, none⟩ = some (.int .u64 (wd Y 0 : Nat)) := Fr.out.cell 4
          have cr5 : W4.cell? ⟨gr, 5, none⟩ = some (.int .u64 (wd Y 1 : Nat)) := Fr.out.cell 5
          have cr6 : W4.cell? ⟨gr, 6, none⟩ = some (.int .u64 (wd Y 2 : Nat)) := Fr.out.cell 6
          have cr7 : W4.cell? ⟨gr, 7, none⟩ = some (.int .u64 (wd Y 3 : Nat)) := Fr.out.cell 7
          have cr8 : W4.cell? ⟨gr, 8, none⟩ = some (.slice a l cap) := Fr.out.cell 8
          have fr0 : W4.frozen? ⟨gr, 0, none⟩ = false := Fr.out.frozen 0
          have fr1 : W4.frozen? ⟨gr, 1, none⟩ = false := Fr.out.frozen 1
          have fr2 : W4.frozen? ⟨gr, 2, none⟩ = false := Fr.out.frozen 2
          have fr3 : W4.frozen? ⟨gr, 3, none⟩ = false := Fr.out.frozen 3
          go_upto_region 7 with fail
          clear Lh ch0 ch1 ch2 ch3 Ln cn0 cn1 cn2 cn3 Lr cr0 cr1 cr2 cr3 cr4 cr5 cr6 cr7 cr8 fr0 fr1 fr2 fr3
          generalize hW5 : ((((W4.setCell ⟨gr, 0, none⟩ (.int .u64 (wd Lo 0 : Nat))).setCell ⟨gr, 1, none⟩ (.int .u64 (wd Lo 1 : Nat))).setCell ⟨gr, 2, none⟩ (.int .u64 (wd Lo 2 : Nat))).setCell ⟨gr, 3, none⟩ (.int .u64 (wd Lo 3 : Nat))) = W5 at *
          have Na := at_of hW5 (Fa.out.farAt Dar _ _ _ _ _ _ _ _)
          have Nb := at_of hW5 (Fb.out.farAt Dbr _ _ _ _ _ _ _ _)
          have Nr := at_of hW5 (Fr.out.putN _ _ _ _)
          have Nn := at_of hW5 (Fn.out.farAt Drn.symm _ _ _ _ _ _ _ _)
          have Nh := at_of hW5 (Fh.out.farAt Drh.symm _ _ _ _ _ _ _ _)
          have NB := gr_of hW5 ((((BW.out.setCell Er _).setCell Er _).setCell Er _).setCell Er _)
          clear hW5 BW Fa Fb Fr Fn Fh
          have Fa := Lib.hid Na
          have Fb := Lib.hid Nb
          have Fr := Lib.hid Nr
          have Fn := Lib.hid Nn
          have Fh := Lib.hid Nh
          have BW := Lib.hid NB
          clear NB Na Nb Nr Nn Nh
          have Lr := Fr.out.lt
          have cr0 : W5.cell? ⟨gr, 0, none⟩ = some (.int .u64 (wd Lo 0 : Nat)) := Fr.out.cell 0
          have cr1 : W5.cell? ⟨gr, 1, none⟩ = some (.int .u64 (wd Lo 1 : Nat)) := Fr.out.cell 1
          have cr2 : W5.cell? ⟨gr, 2, none⟩ = some (.int .u64 (wd Lo 2 : Nat)) := Fr.out.cell 2
          have cr3 : W5.cell? ⟨gr, 3, none⟩ = some (.int .u64 (wd Lo 3 : Nat)) := Fr.out.cell 3
          have cr4 : W5.cell? ⟨gr, 4, none⟩ = some (.int .u64 (wd Y 0 : Nat)) := Fr.out.cell 4
          have cr5 : W5.cell? ⟨gr, 5, none⟩ = some (.int .u64 (wd Y 1 : Nat)) := Fr.out.cell 5
          have cr6 : W5.cell? ⟨gr, 6, none⟩ = some (.int .u64 (wd Y 2 : Nat)) := Fr.out.cell 6
          have cr7 : W5.cell? ⟨gr, 7, none⟩ = some (.int .u64 (wd Y 3 : Nat)) := Fr.out.cell 7
          have cr8 : W5.cell? ⟨gr, 8, none⟩ = some (.slice a l cap) := Fr.out.cell 8
          go_wp2_with fail
          clear Lr cr0 cr1 cr2 cr3 cr4 cr5 cr6 cr7 cr8
          refine (HCC.out _ BW.out).mono ?_
          rintro e v6 ⟨rfl, z6⟩
          have Na := Lib.hid (Fa.out.on z6)
          have Nb := Lib.hid (Fb.out.on z6)
          have Nr := Lib.hid (Fr.out.on z6)
          have Nn := Lib.hid (Fn.out.on z6)
          have Nh := Lib.hid (Fh.out.on z6)
          have NB := Lib.hid (bel_tr BW.out z6)
          clear BW z6 Fa Fb Fr Fn Fh
          have Fa := Na
          have Fb := Nb
          have Fr := Nr
          have Fn := Nn
          have Fh := Nh
          have BW := NB
          clear NB Na Nb Nr Nn Nh
          have Ln := Fn.out.lt
          have cn0 := Fn.out.c0
          have cn1 := Fn.out.c1
          have cn2 := Fn.out.c2
          have cn3 := Fn.out.c3
          go_wp2_with fail
          clear Ln cn0 cn1 cn2 cn3
          refine (HBI.out _).mono ?_
          rintro e v7 ⟨rfl, z7⟩
          have Na := Lib.hid (Fa.out.on z7)
          have Nb := Lib.hid (Fb.out.on z7)
          have Nr := Lib.hid (Fr.out.on z7)
          have Nn := Lib.hid (Fn.out.on z7)
          have Nh := Lib.hid (Fh.out.on z7)
          have NB := Lib.hid (bel_tr BW.out z7)
          clear BW z7 Fa Fb Fr Fn Fh
          have Fa := Na
          have Fb := Nb
          have Fr := Nr
          have Fn := Nn
          have Fh := Nh
          have BW := NB
          clear NB Na Nb Nr Nn Nh
          obtain ⟨m, hm⟩ : ∃ m, m = Go.bitLen Lo := ⟨_, rfl⟩
          rw [← hm]
          by_cases h64 : (64 : Int) < (m : Int)
          · clear hm
            go_wp2
            go_ret
            exact ⟨rfl, BW.out⟩
          · have hlt := bitLen_lt (X := Lo) (by omega)
            have HS := Lib.hid (fun w => small_f (n := wd Lo 0) (wd_lt _ _) (fun h => HNP.out (by have := h.2; rwa [wd_small hlt] at this)) w)
            clear hm hlt
            have Ln := Fn.out.lt
            have cn0 := Fn.out.c0
            have cn1 := Fn.out.c1
            have cn2 := Fn.out.c2
            have cn3 := Fn.out.c3
            go_wp2_with fail
            clear Ln cn0 cn1 cn2 cn3
            refine (HS.out _).mono ?_
            rintro e v8 ⟨rfl, z8⟩
            have Na := Lib.hid (Fa.out.on z8)
            have Nb := Lib.hid (Fb.out.on z8)
            have Nr := Lib.hid (Fr.out.on z8)
            have Nn := Lib.hid (Fn.out.on z8)
            have Nh := Lib.hid (Fh.out.on z8)
            have NB := Lib.hid (bel_tr BW.out z8)
            clear BW z8 Fa Fb Fr Fn Fh
            have Fa := Na
            have Fb := Nb
            have Fr := Nr
            have Fn := Nn
            have Fh := Nh
            have BW := NB
            clear NB Na Nb Nr Nn Nh
            go_wp2
            go_ret
            exact ⟨rfl, BW.out⟩
        · rw [decide_eq_false hh] at eqz
          clear hh
          have Lh := Fh.out.lt
          have ch0 := Fh.out.c0
          have ch1 := Fh.out.c1
          have ch2 := Fh.out.c2
          have ch3 := Fh.out.c3
          go_wp2
          go_ret
          exact ⟨rfl, BW.out⟩
      · have HK2 := Lib.hid (cmpN_le0 (Nat.le_of_not_lt hB1))
        clear hB1
        generalize cmpN B 1 = kb at *
        try simp only [List.append_eq, List.cons_append, List.nil_append]
        refine wp_region_noPanic ?_
        refine wp_region_held_drew (S := fun w' => At w' gr 28 #[.int .u64 (wd N 0 : Nat), .int .u64 (wd N 1 : Nat), .int .u64 (wd N 2 : Nat), .int .u64 (wd N 3 : Nat), .int .u64 (wd Y 0 : Nat), .int .u64 (wd Y 1 : Nat), .int .u64 (wd Y 2 : Nat), .int .u64 (wd Y 3 : Nat), .slice a l cap] ∧ At w' ga 25 #[.int .u64 (wd A 0 : Nat), .int .u64 (wd A 1 : Nat), .int .u64 (wd A 2 : Nat), .int .u64 (wd A 3 : Nat)] ∧ At w' gb 25 #[.int .u64 (wd B 0 : Nat), .int .u64 (wd B 1 : Nat), .int .u64 (wd B 2 : Nat), .int .u64 (wd B 3 : Nat)]) (by kernel_rfl) (⟨Fr.out.drew, Fa.out.drew, Fb.out.drew⟩) (fun _ => ?_)
        refine wpAnyH_cores (fuel := 0) (⟨0, 9, [], Kind.val (.bool true), false⟩ :: ⟨1, 10, [0], Kind.val (.bool false), true⟩ :: ⟨2, 11, [1], Kind.val (.bool false), true⟩ :: ⟨3, 12, [2], Kind.val (.agg #[.int .u64 (wd N 0 : Nat), .int .u64 (wd N 1 : Nat), .int .u64 (wd N 2 : Nat), .int .u64 (wd N 3 : Nat), .int .u64 (wd Y 0 : Nat), .int .u64 (wd Y 1 : Nat), .int .u64 (wd Y 2 : Nat), .int .u64 (wd Y 3 : Nat), .slice a l cap]), true⟩ :: ⟨4, 13, [2, 3], Kind.val (.int .i64 z), false⟩ :: ⟨5, 14, [2, 4], Kind.val (.bool false), true⟩ :: ⟨6, 15, [2, 5], Kind.val (.bool false), true⟩ :: ⟨7, 16, [6], Kind.val (.bool false), true⟩ :: ⟨8, 17, [7], Kind.val (.agg #[.int .u64 (wd A 0 : Nat), .int .u64 (wd A 1 : Nat), .int .u64 (wd A 2 : Nat), .int .u64 (wd A 3 : Nat)]), true⟩ :: ⟨9, 18, [7, 8], Kind.val (.agg #[.int .u64 (wd 1 0 : Nat), .int .u64 (wd 1 1 : Nat), .int .u64 (wd 1 2 : Nat), .int .u64 (wd 1 3 : Nat)]), false⟩ :: ⟨10, 19, [7, 8, 9], Kind.val (.int .i64 ka), false⟩ :: ⟨11, 20, [7, 10], Kind.val (.bool false), true⟩ :: ⟨12, 21, [7, 11], Kind.val (.bool false), true⟩ :: ⟨13, 22, [12], Kind.val (.bool false), true⟩ :: ⟨14, 23, [13], Kind.val (.agg #[.int .u64 (wd B 0 : Nat), .int .u64 (wd B 1 : Nat), .int .u64 (wd B 2 : Nat), .int .u64 (wd B 3 : Nat)]), true⟩ :: ⟨15, 24, [13, 14], Kind.val (.agg #[.int .u64 (wd 1 0 : Nat), .int .u64 (wd 1 1 : Nat), .int .u64 (wd 1 2 : Nat), .int .u64 (wd 1 3 : Nat)]), false⟩ :: ⟨16, 25, [13, 14, 15], Kind.val (.int .i64 kb), false⟩ :: ⟨17, 26, [13, 16], Kind.val (.bool true), true⟩ :: ⟨18, 27, [13, 17], Kind.val (.bool true), true⟩ :: []) _ _ W1 _ ?_ ?_ ?_ ?_ ?_ ?_ ?_ ?_ ?_ ?_ ?_
        · rfl
        · kernel_rfl
        · exact of_decide_eq_true (by kernel_rfl)
        · exact all_cons ⟨_, by rfl, by rfl⟩ (all_cons ⟨_, by rfl, by rfl⟩ (all_cons ⟨_, by rfl, by rfl⟩ (all_cons ⟨_, by rfl, by rfl⟩ (all_cons ⟨_, by rfl, by rfl⟩ (all_cons ⟨_, by rfl, by rfl⟩ (all_cons ⟨_, by rfl, by rfl⟩ (all_cons ⟨_, by rfl, by rfl⟩ (all_cons ⟨_, by rfl, by rfl⟩ (all_cons ⟨_, by rfl, by rfl⟩ (all_cons ⟨_, by rfl, by rfl⟩ (all_cons ⟨_, by rfl, by rfl⟩ (all_cons ⟨_, by rfl, by rfl⟩ (all_cons ⟨_, by rfl, by rfl⟩ (all_cons ⟨_, by rfl, by rfl⟩ (all_cons ⟨_, by rfl, by rfl⟩ (all_cons ⟨_, by rfl, by rfl⟩ (all_cons ⟨_, by rfl, by rfl⟩ (all_cons ⟨_, by rfl, by rfl⟩ (all_nil)))))))))))))))))))
        · exact fun _ hb => ⟨Fr.out.on hb, Fa.out.on hb, Fb.out.on hb⟩
        · exact (Below.refl _ _).drew
        · kernel_rfl
        · exact fun _ _ _ _ _ h => h
        · refine all_cons ?_ (all_cons ?_ (all_cons ?_ (all_cons ?_ (all_cons ?_ (all_cons ?_ (all_cons ?_ (all_cons ?_ (all_cons ?_ (all_cons ?_ (all_cons ?_ (all_cons ?_ (all_cons ?_ (all_cons ?_ (all_cons ?_ (all_cons ?_ (all_cons ?_ (all_cons ?_ (all_cons ?_ (all_nil)))))))))))))))))))
          · exact core_pureAs _ (by rfl)
          · exact coreG_un _ _ _ _ _ _ _ _ _ _ (by rfl) (by rfl) (wants_none) (known_core 0 9 _ _ (of_decide_eq_true (by rfl)) (by rfl) (by rfl) (by rfl)) (fun ρ w hx => by simp only [execOp, hx]; simp [go_sem])
          · exact coreG_move _ _ _ _ _ _ _ (by rfl) (by rfl) (wants_none) (known_core 1 10 _ _ (of_decide_eq_true (by rfl)) (by rfl) (by rfl) (by rfl))
          · exact coreG_held _ _ _ _ _ _ _ _ _ (by rfl) (by rfl) (wants_core 2 11 2 _ _ _ (by rfl) (by rfl) (by rfl) (known_core 2 11 _ _ (of_decide_eq_true (by rfl)) (by rfl) (by rfl) (by rfl)) _ (by rfl)) (known_old 5 _ (of_decide_eq_true (by rfl)) (by rfl)) (fun ρ w hx hs => loadR _ _ _ _ _ _ ρ w gr _ _ _ _ _ _ _ _ _ hx (hs.1))
          · exact core_pureAs _ (by rfl)
          · exact coreG_bin _ _ _ _ _ _ _ _ _ _ _ _ _ (by rfl) (by rfl) (wants_core 2 11 2 _ _ _ (by rfl) (by rfl) (by rfl) (known_core 2 11 _ _ (of_decide_eq_true (by rfl)) (by rfl) (by rfl) (by rfl)) _ (by rfl)) (known_core 4 13 _ _ (of_decide_eq_true (by rfl)) (by rfl) (by rfl) (by rfl)) (known_const _) ((fun ρ w hx hy => by simp only [execOp, hx, hy]; simp [go_sem, HZ.out]))
          · exact coreG_pick _ _ _ _ _ _ _ _ _ _ _ _ (by rfl) (by rfl) (wants_none) (known_core 2 11 _ _ (of_decide_eq_true (by rfl)) (by rfl) (by rfl) (by rfl)) (known_const _) (known_core 5 14 _ _ (of_decide_eq_true (by rfl)) (by rfl) (by rfl) (by rfl)) (by rfl)
          · exact coreG_move _ _ _ _ _ _ _ (by rfl) (by rfl) (wants_none) (known_core 6 15 _ _ (of_decide_eq_true (by rfl)) (by rfl) (by rfl) (by rfl))
          · exact coreG_loadP _ _ _ _ _ _ ga _ _ _ _ (by rfl) (by rfl) (wants_core 7 16 7 _ _ _ (by rfl) (by rfl) (by rfl) (known_core 7 16 _ _ (of_decide_eq_true (by rfl)) (by rfl) (by rfl) (by rfl)) _ (by rfl)) (known_old 3 _ (of_decide_eq_true (by rfl)) (by rfl)) (fun _ hs => hs.2.1)
          · exact core_pureAs _ (by rfl)
          · exact core_pureAs _ (by rfl)
          · exact coreG_bin _ _ _ _ _ _ _ _ _ _ _ _ _ (by rfl) (by rfl) (wants_core 7 16 7 _ _ _ (by rfl) (by rfl) (by rfl) (known_core 7 16 _ _ (of_decide_eq_true (by rfl)) (by rfl) (by rfl) (by rfl)) _ (by rfl)) (known_core 10 19 _ _ (of_decide_eq_true (by rfl)) (by rfl) (by rfl) (by rfl)) (known_const _) ((fun ρ w hx hy => by simp only [execOp, hx, hy]; simp [go_sem, HK.out]))
          · exact coreG_pick _ _ _ _ _ _ _ _ _ _ _ _ (by rfl) (by rfl) (wants_none) (known_core 7 16 _ _ (of_decide_eq_true (by rfl)) (by rfl) (by rfl) (by rfl)) (known_const _) (known_core 11 20 _ _ (of_decide_eq_true (by rfl)) (by rfl) (by rfl) (by rfl)) (by rfl)
          · exact coreG_move _ _ _ _ _ _ _ (by rfl) (by rfl) (wants_none) (known_core 12 21 _ _ (of_decide_eq_true (by rfl)) (by rfl) (by rfl) (by rfl))
          · exact coreG_loadP _ _ _ _ _ _ gb _ _ _ _ (by rfl) (by rfl) (wants_core 13 22 13 _ _ _ (by rfl) (by rfl) (by rfl) (known_core 13 22 _ _ (of_decide_eq_true (by rfl)) (by rfl) (by rfl) (by rfl)) _ (by rfl)) (known_old 4 _ (of_decide_eq_true (by rfl)) (by rfl)) (fun _ hs => hs.2.2)
          · exact core_pureAs _ (by rfl)
          · exact core_pureAs _ (by rfl)
          · exact coreG_bin _ _ _ _ _ _ _ _ _ _ _ _ _ (by rfl) (by rfl) (wants_core 13 22 13 _ _ _ (by rfl) (by rfl) (by rfl) (known_core 13 22 _ _ (of_decide_eq_true (by rfl)) (by rfl) (by rfl) (by rfl)) _ (by rfl)) (known_core 16 25 _ _ (of_decide_eq_true (by rfl)) (by rfl) (by rfl) (by rfl)) (known_const _) ((fun ρ w hx hy => by simp only [execOp, hx, hy]; simp [go_sem, HK2.out]))
          · exact coreG_pick _ _ _ _ _ _ _ _ _ _ _ _ (by rfl) (by rfl) (wants_none) (known_core 13 22 _ _ (of_decide_eq_true (by rfl)) (by rfl) (by rfl) (by rfl)) (known_const _) (known_core 17 26 _ _ (of_decide_eq_true (by rfl)) (by rfl) (by rfl) (by rfl)) (by rfl)
        · refine all_cons ?_ (all_cons ?_ (all_cons ?_ (all_cons ?_ (all_cons ?_ (all_cons ?_ (all_cons ?_ (all_cons ?_ (all_cons ?_ (all_cons ?_ (all_cons ?_ (all_cons ?_ (all_cons ?_ (all_cons ?_ (all_cons ?_ (all_cons ?_ (all_cons ?_ (all_cons ?_ (all_cons ?_ (all_nil)))))))))))))))))))
          · exact fun _ => coreG_call _ 17 _ _ [] _ _ _ _ _ _ _ (by rfl) Try.func17 (by kernel_rfl) (by rfl) (by rfl) (wants_none) .nil (alive7_any)
          · exact core_stepAs _ (by rfl)
          · exact core_stepAs _ (by rfl)
          · exact core_stepAs _ (by rfl)
          · exact fun _ => coreG_callB _ 12 _ _ [.tmp 12] _ _ _ _ _ _ _ (by rfl) Try.func12 (by kernel_rfl) (by rfl) (by rfl) (wants_core 2 11 2 _ _ _ (by rfl) (by rfl) (by rfl) (known_core 2 11 _ _ (of_decide_eq_true (by rfl)) (by rfl) (by rfl) (by rfl)) _ (by rfl)) (.cons (known_core 3 12 _ _ (of_decide_eq_true (by rfl)) (by rfl) (by rfl) (by rfl)) .nil) ((fun u hb => HSZ.out u (bel_tr BW.out hb)))
          · exact core_stepAs _ (by rfl)
          · exact core_stepAs _ (by rfl)
          · exact core_stepAs _ (by rfl)
          · exact core_stepAs _ (by rfl)
          · exact fun _ => coreG_call _ 19 _ _ [.const (.int .u64 1)] _ _ _ _ _ _ _ (by rfl) Try.func19 (by kernel_rfl) (by rfl) (by rfl) (wants_core 7 16 7 _ _ _ (by rfl) (by rfl) (by rfl) (known_core 7 16 _ _ (of_decide_eq_true (by rfl)) (by rfl) (by rfl) (by rfl)) _ (by rfl)) (.cons (known_const _) .nil) (HO.out)
          · exact fun _ => coreG_call _ 18 _ _ [.tmp 17, .tmp 18] _ _ _ _ _ _ _ (by rfl) Try.func18 (by kernel_rfl) (by rfl) (by rfl) (wants_core 7 16 7 _ _ _ (by rfl) (by rfl) (by rfl) (known_core 7 16 _ _ (of_decide_eq_true (by rfl)) (by rfl) (by rfl) (by rfl)) _ (by rfl)) (.cons (known_core 8 17 _ _ (of_decide_eq_true (by rfl)) (by rfl) (by rfl) (by rfl)) (.cons (known_core 9 18 _ _ (of_decide_eq_true (by rfl)) (by rfl) (by rfl) (by rfl)) .nil)) (HKA.out)
          · exact core_stepAs _ (by rfl)
          · exact core_stepAs _ (by rfl)
          · exact core_stepAs _ (by rfl)
          · exact core_stepAs _ (by rfl)
          · exact fun _ => coreG_call _ 19 _ _ [.const (.int .u64 1)] _ _ _ _ _ _ _ (by rfl) Try.func19 (by kernel_rfl) (by rfl) (by rfl) (wants_core 13 22 13 _ _ _ (by rfl) (by rfl) (by rfl) (known_core 13 22 _ _ (of_decide_eq_true (by rfl)) (by rfl) (by rfl) (by rfl)) _ (by rfl)) (.cons (known_const _) .nil) (HO.out)
          · exact fun _ => coreG_call _ 18 _ _ [.tmp 23, .tmp 24] _ _ _ _ _ _ _ (by rfl) Try.func18 (by kernel_rfl) (by rfl) (by rfl) (wants_core 13 22 13 _ _ _ (by rfl) (by rfl) (by rfl) (known_core 13 22 _ _ (of_decide_eq_true (by rfl)) (by rfl) (by rfl) (by rfl)) _ (by rfl)) (.cons (known_core 14 23 _ _ (of_decide_eq_true (by rfl)) (by rfl) (by rfl) (by rfl)) (.cons (known_core 15 24 _ _ (of_decide_eq_true (by rfl)) (by rfl) (by rfl) (by rfl)) .nil)) (HKB.out)
          · exact core_stepAs _ (by rfl)
          · exact core_stepAs _ (by rfl)
        intro vs y2 hc
        obtain ⟨vv0, vv1, vv2, vv3, vv4, vv5, vv6, vv7, vv8, vv9, vv10, vv11, vv12, vv13, vv14, vv15, vv16, vv17, vv18, rfl⟩ := len19 vs hc.lv
        have qq0 : vv0 = .bool true := by obtain ⟨xx, hx, hy⟩ := hc.ok 0 _ rfl rfl; exact (Option.some.inj (show some vv0 = some xx from hx)).trans hy
        have qq1 : vv1 = .bool false := by obtain ⟨xx, hx, hy⟩ := hc.ok 1 _ rfl rfl; exact (Option.some.inj (show some vv1 = some xx from hx)).trans hy
        have qq2 : vv2 = .bool false := by obtain ⟨xx, hx, hy⟩ := hc.ok 2 _ rfl rfl; exact (Option.some.inj (show some vv2 = some xx from hx)).trans hy
        have qq3 : vv3 = .agg #[.int .u64 (wd N 0 : Nat), .int .u64 (wd N 1 : Nat), .int .u64 (wd N 2 : Nat), .int .u64 (wd N 3 : Nat), .int .u64 (wd Y 0 : Nat), .int .u64 (wd Y 1 : Nat), .int .u64 (wd Y 2 : Nat), .int .u64 (wd Y 3 : Nat), .slice a l cap] := by obtain ⟨xx, hx, hy⟩ := hc.ok 3 _ rfl rfl; exact (Option.some.inj (show some vv3 = some xx from hx)).trans hy
        have qq4 : vv4 = .int .i64 z := by obtain ⟨xx, hx, hy⟩ := hc.ok 4 _ rfl rfl; exact (Option.some.inj (show some vv4 = some xx from hx)).trans hy
        have qq5 : vv5 = .bool false := by obtain ⟨xx, hx, hy⟩ := hc.ok 5 _ rfl rfl; exact (Option.some.inj (show some vv5 = some xx from hx)).trans hy
        have qq6 : vv6 = .bool false := by obtain ⟨xx, hx, hy⟩ := hc.ok 6 _ rfl rfl; exact (Option.some.inj (show some vv6 = some xx from hx)).trans hy
        have qq7 : vv7 = .bool false := by obtain ⟨xx, hx, hy⟩ := hc.ok 7 _ rfl rfl; exact (Option.some.inj (show some vv7 = some xx from hx)).trans hy
        have qq8 : vv8 = .agg #[.int .u64 (wd A 0 : Nat), .int .u64 (wd A 1 : Nat), .int .u64 (wd A 2 : Nat), .int .u64 (wd A 3 : Nat)] := by obtain ⟨xx, hx, hy⟩ := hc.ok 8 _ rfl rfl; exact (Option.some.inj (show some vv8 = some xx from hx)).trans hy
        have qq9 : vv9 = .agg #[.int .u64 (wd 1 0 : Nat), .int .u64 (wd 1 1 : Nat), .int .u64 (wd 1 2 : Nat), .int .u64 (wd 1 3 : Nat)] := by obtain ⟨xx, hx, hy⟩ := hc.ok 9 _ rfl rfl; exact (Option.some.inj (show some vv9 = some xx from hx)).trans hy
        have qq10 : vv10 = .int .i64 ka := by obtain ⟨xx, hx, hy⟩ := hc.ok 10 _ rfl rfl; exact (Option.some.inj (show some vv10 = some xx from hx)).trans hy
        have qq11 : vv11 = .bool false := by obtain ⟨xx, hx, hy⟩ := hc.ok 11 _ rfl rfl; exact (Option.some.inj (show some vv11 = some xx from hx)).trans hy
        have qq12 : vv12 = .bool false := by obtain ⟨xx, hx, hy⟩ := hc.ok 12 _ rfl rfl; exact (Option.some.inj (show some vv12 = some xx from hx)).trans hy
        have qq13 : vv13 = .bool false := by obtain ⟨xx, hx, hy⟩ := hc.ok 13 _ rfl rfl; exact (Option.some.inj (show some vv13 = some xx from hx)).trans hy
        have qq14 : vv14 = .agg #[.int .u64 (wd B 0 : Nat), .int .u64 (wd B 1 : Nat), .int .u64 (wd B 2 : Nat), .int .u64 (wd B 3 : Nat)] := by obtain ⟨xx, hx, hy⟩ := hc.ok 14 _ rfl rfl; exact (Option.some.inj (show some vv14 = some xx from hx)).trans hy
        have qq15 : vv15 = .agg #[.int .u64 (wd 1 0 : Nat), .int .u64 (wd 1 1 : Nat), .int .u64 (wd 1 2 : Nat), .int .u64 (wd 1 3 : Nat)] := by obtain ⟨xx, hx, hy⟩ := hc.ok 15 _ rfl rfl; exact (Option.some.inj (show some vv15 = some xx from hx)).trans hy
        have qq16 : vv16 = .int .i64 kb := by obtain ⟨xx, hx, hy⟩ := hc.ok 16 _ rfl rfl; exact (Option.some.inj (show some vv16 = some xx from hx)).trans hy
        have qq17 : vv17 = .bool true := by obtain ⟨xx, hx, hy⟩ := hc.ok 17 _ rfl rfl; exact (Option.some.inj (show some vv17 = some xx from hx)).trans hy
        have qq18 : vv18 = .bool true := by obtain ⟨xx, hx, hy⟩ := hc.ok 18 _ rfl rfl; exact (Option.some.inj (show some vv18 = some xx from hx)).trans hy
        have BZ := hc.bel
        clear hc
        have Na := Fa.out.on BZ
        have Nb := Fb.out.on BZ
        have Nr := Fr.out.on BZ
        have NB := bel_tr BW.out BZ
        clear BW BZ Fa Fb Fr
        subst qq0 qq1 qq2 qq3 qq4 qq5 qq6 qq7 qq8 qq9 qq10 qq11 qq12 qq13 qq14 qq15 qq16 qq17 qq18
        simp only [List.map_cons, List.map_nil, over, Act.put, List.setIfInBounds_toArray, List.set_cons_zero, List.set_cons_succ]
        refine wpAnyH_done (by kernel_rfl) ?_ _
        refine NoPanic.normal ?_
        have Fa := Lib.hid Na
        have Fb := Lib.hid Nb
        have Fr := Lib.hid Nr
        have BW := Lib.hid NB
        clear NB Na Nb Nr
        go_wp2_with fail
        refine (alive7_any _).mono ?_
        rintro e v3 ⟨rfl, z3⟩
        have Na := Lib.hid (Fa.out.on z3)
        have Nb := Lib.hid (Fb.out.on z3)
        have Nr := Lib.hid (Fr.out.on z3)
        have NB := Lib.hid (bel_tr BW.out z3)
        clear BW z3 Fa Fb Fr
        have Fa := Na
        have Fb := Nb
        have Fr := Nr
        have BW := NB
        clear NB Na Nb Nr
        go_wp2
        go_ret
        exact ⟨rfl, BW.out⟩
    · have HK := Lib.hid (cmpN_le0 (Nat.le_of_not_lt hA1))
      clear hA1
      generalize cmpN A 1 = ka at *
      try simp only [List.append_eq, List.cons_append, List.nil_append]
      refine wp_region_noPanic ?_
      refine wp_region_held_drew (S := fun w' => At w' gr 28 #[.int .u64 (wd N 0 : Nat), .int .u64 (wd N 1 : Nat), .int .u64 (wd N 2 : Nat), .int .u64 (wd N 3 : Nat), .int .u64 (wd Y 0 : Nat), .int .u64 (wd Y 1 : Nat), .int .u64 (wd Y 2 : Nat), .int .u64 (wd Y 3 : Nat), .slice a l cap] ∧ At w' ga 25 #[.int .u64 (wd A 0 : Nat), .int .u64 (wd A 1 : Nat), .int .u64 (wd A 2 : Nat), .int .u64 (wd A 3 : Nat)] ∧ At w' gb 25 #[.int .u64 (wd B 0 : Nat), .int .u64 (wd B 1 : Nat), .int .u64 (wd B 2 : Nat), .int .u64 (wd B 3 : Nat)]) (by kernel_rfl) (⟨Fr.out.drew, Fa.out.drew, Fb.out.drew⟩) (fun _ => ?_)
      refine wpAnyH_cores (fuel := 0) (⟨0, 9, [], Kind.val (.bool true), false⟩ :: ⟨1, 10, [0], Kind.val (.bool false), true⟩ :: ⟨2, 11, [1], Kind.val (.bool false), true⟩ :: ⟨3, 12, [2], Kind.val (.agg #[.int .u64 (wd N 0 : Nat), .int .u64 (wd N 1 : Nat), .int .u64 (wd N 2 : Nat), .int .u64 (wd N 3 : Nat), .int .u64 (wd Y 0 : Nat), .int .u64 (wd Y 1 : Nat), .int .u64 (wd Y 2 : Nat), .int .u64 (wd Y 3 : Nat), .slice a l cap]), true⟩ :: ⟨4, 13, [2, 3], Kind.val (.int .i64 z), false⟩ :: ⟨5, 14, [2, 4], Kind.val (.bool false), true⟩ :: ⟨6, 15, [2, 5], Kind.val (.bool false), true⟩ :: ⟨7, 16, [6], Kind.val (.bool false), true⟩ :: ⟨8, 17, [7], Kind.val (.agg #[.int .u64 (wd A 0 : Nat), .int .u64 (wd A 1 : Nat), .int .u64 (wd A 2 : Nat), .int .u64 (wd A 3 : Nat)]), true⟩ :: ⟨9, 18, [7, 8], Kind.val (.agg #[.int .u64 (wd 1 0 : Nat), .int .u64 (wd 1 1 : Nat), .int .u64 (wd 1 2 : Nat), .int .u64 (wd 1 3 : Nat)]), false⟩ :: ⟨10, 19, [7, 8, 9], Kind.val (.int .i64 ka), false⟩ :: ⟨11, 20, [7, 10], Kind.val (.bool true), true⟩ :: ⟨12, 21, [7, 11], Kind.val (.bool true), true⟩ :: ⟨13, 22, [12], Kind.val (.bool true), true⟩ :: ⟨14, 23, [13], Kind.val (undef), true⟩ :: ⟨15, 24, [13, 14], Kind.val (undef), true⟩ :: ⟨16, 25, [13, 14, 15], Kind.val (undef), true⟩ :: ⟨17, 26, [13, 16], Kind.val (undef), true⟩ :: ⟨18, 27, [13, 17], Kind.val (.bool true), true⟩ :: []) _ _ W1 _ ?_ ?_ ?_ ?_ ?_ ?_ ?_ ?_ ?_ ?_ ?_
      · rfl
      · kernel_rfl
      · exact of_decide_eq_true (by kernel_rfl)
      · exact all_cons ⟨_, by rfl, by rfl⟩ (all_cons ⟨_, by rfl, by rfl⟩ (all_cons ⟨_, by rfl, by rfl⟩ (all_cons ⟨_, by rfl, by rfl⟩ (all_cons ⟨_, by rfl, by rfl⟩ (all_cons ⟨_, by rfl, by rfl⟩ (all_cons ⟨_, by rfl, by rfl⟩ (all_cons ⟨_, by rfl, by rfl⟩ (all_cons ⟨_, by rfl, by rfl⟩ (all_cons ⟨_, by rfl, by rfl⟩ (all_cons ⟨_, by rfl, by rfl⟩ (all_cons ⟨_, by rfl, by rfl⟩ (all_cons ⟨_, by rfl, by rfl⟩ (all_cons ⟨_, by rfl, by rfl⟩ (all_cons ⟨_, by rfl, by rfl⟩ (all_cons ⟨_, by rfl, by rfl⟩ (all_cons ⟨_, by rfl, by rfl⟩ (all_cons ⟨_, by rfl, by rfl⟩ (all_cons ⟨_, by rfl, by rfl⟩ (all_nil)))))))))))))))))))
      · exact fun _ hb => ⟨Fr.out.on hb, Fa.out.on hb, Fb.out.on hb⟩
      · exact (Below.refl _ _).drew
      · kernel_rfl
      · exact fun _ _ _ _ _ h => h
      · refine all_cons ?_ (all_cons ?_ (all_cons ?_ (all_cons ?_ (all_cons ?_ (all_cons ?_ (all_cons ?_ (all_cons ?_ (all_cons ?_ (all_cons ?_ (all_cons ?_ (all_cons ?_ (all_cons ?_ (all_cons ?_ (all_cons ?_ (all_cons ?_ (all_cons ?_ (all_cons ?_ (all_cons ?_ (all_nil)))))))))))))))))))
        · exact core_pureAs _ (by rfl)
        · exact coreG_un _ _ _ _ _ _ _ _ _ _ (by rfl) (by rfl) (wants_none) (known_core 0 9 _ _ (of_decide_eq_true (by rfl)) (by rfl) (by rfl) (by rfl)) (fun ρ w hx => by simp only [execOp, hx]; simp [go_sem])
        · exact coreG_move _ _ _ _ _ _ _ (by rfl) (by rfl) (wants_none) (known_core 1 10 _ _ (of_decide_eq_true (by rfl)) (by rfl) (by rfl) (by rfl))
        · exact coreG_held _ _ _ _ _ _ _ _ _ (by rfl) (by rfl) (wants_core 2 11 2 _ _ _ (by rfl) (by rfl) (by rfl) (known_core 2 11 _ _ (of_decide_eq_true (by rfl)) (by rfl) (by rfl) (by rfl)) _ (by rfl)) (known_old 5 _ (of_decide_eq_true (by rfl)) (by rfl)) (fun ρ w hx hs => loadR _ _ _ _ _ _ ρ w gr _ _ _ _ _ _ _ _ _ hx (hs.1))
        · exact core_pureAs _ (by rfl)
        · exact coreG_bin _ _ _ _ _ _ _ _ _ _ _ _ _ (by rfl) (by rfl) (wants_core 2 11 2 _ _ _ (by rfl) (by rfl) (by rfl) (known_core 2 11 _ _ (of_decide_eq_true (by rfl)) (by rfl) (by rfl) (by rfl)) _ (by rfl)) (known_core 4 13 _ _ (of_decide_eq_true (by rfl)) (by rfl) (by rfl) (by rfl)) (known_const _) ((fun ρ w hx hy => by simp only [execOp, hx, hy]; simp [go_sem, HZ.out]))
        · exact coreG_pick _ _ _ _ _ _ _ _ _ _ _ _ (by rfl) (by rfl) (wants_none) (known_core 2 11 _ _ (of_decide_eq_true (by rfl)) (by rfl) (by rfl) (by rfl)) (known_const _) (known_core 5 14 _ _ (of_decide_eq_true (by rfl)) (by rfl) (by rfl) (by rfl)) (by rfl)
        · exact coreG_move _ _ _ _ _ _ _ (by rfl) (by rfl) (wants_none) (known_core 6 15 _ _ (of_decide_eq_true (by rfl)) (by rfl) (by rfl) (by rfl))
        · exact coreG_loadP _ _ _ _ _ _ ga _ _ _ _ (by rfl) (by rfl) (wants_core 7 16 7 _ _ _ (by rfl) (by rfl) (by rfl) (known_core 7 16 _ _ (of_decide_eq_true (by rfl)) (by rfl) (by rfl) (by rfl)) _ (by rfl)) (known_old 3 _ (of_decide_eq_true (by rfl)) (by rfl)) (fun _ hs => hs.2.1)
        · exact core_pureAs _ (by rfl)
        · exact core_pureAs _ (by rfl)
        · exact coreG_bin _ _ _ _ _ _ _ _ _ _ _ _ _ (by rfl) (by rfl) (wants_core 7 16 7 _ _ _ (by rfl) (by rfl) (by rfl) (known_core 7 16 _ _ (of_decide_eq_true (by rfl)) (by rfl) (by rfl) (by rfl)) _ (by rfl)) (known_core 10 19 _ _ (of_decide_eq_true (by rfl)) (by rfl) (by rfl) (by rfl)) (known_const _) ((fun ρ w hx hy => by simp only [execOp, hx, hy]; simp [go_sem, HK.out]))
        · exact coreG_pick _ _ _ _ _ _ _ _ _ _ _ _ (by rfl) (by rfl) (wants_none) (known_core 7 16 _ _ (of_decide_eq_true (by rfl)) (by rfl) (by rfl) (by rfl)) (known_const _) (known_core 11 20 _ _ (of_decide_eq_true (by rfl)) (by rfl) (by rfl) (by rfl)) (by rfl)
        · exact coreG_move _ _ _ _ _ _ _ (by rfl) (by rfl) (wants_none) (known_core 12 21 _ _ (of_decide_eq_true (by rfl)) (by rfl) (by rfl) (by rfl))
        · exact coreG_skip _ _ _ _ _ _ (by rfl) (by rfl) (wants_core 13 22 13 _ _ _ (by rfl) (by rfl) (by rfl) (known_core 13 22 _ _ (of_decide_eq_true (by rfl)) (by rfl) (by rfl) (by rfl)) _ (by rfl))
        · exact coreG_skip _ _ _ _ _ _ (by rfl) (by rfl) (wants_core 13 22 13 _ _ _ (by rfl) (by rfl) (by rfl) (known_core 13 22 _ _ (of_decide_eq_true (by rfl)) (by rfl) (by rfl) (by rfl)) _ (by rfl))
        · exact coreG_skip _ _ _ _ _ _ (by rfl) (by rfl) (wants_core 13 22 13 _ _ _ (by rfl) (by rfl) (by rfl) (known_core 13 22 _ _ (of_decide_eq_true (by rfl)) (by rfl) (by rfl) (by rfl)) _ (by rfl))
        · exact coreG_skip _ _ _ _ _ _ (by rfl) (by rfl) (wants_core 13 22 13 _ _ _ (by rfl) (by rfl) (by rfl) (known_core 13 22 _ _ (of_decide_eq_true (by rfl)) (by rfl) (by rfl) (by rfl)) _ (by rfl))
        · exact coreG_pick _ _ _ _ _ _ _ _ _ _ _ _ (by rfl) (by rfl) (wants_none) (known_core 13 22 _ _ (of_decide_eq_true (by rfl)) (by rfl) (by rfl) (by rfl)) (known_const _) (known_core 17 26 _ _ (of_decide_eq_true (by rfl)) (by rfl) (by rfl) (by rfl)) (by rfl)
      · refine all_cons ?_ (all_cons ?_ (all_cons ?_ (all_cons ?_ (all_cons ?_ (all_cons ?_ (all_cons ?_ (all_cons ?_ (all_cons ?_ (all_cons ?_ (all_cons ?_ (all_cons ?_ (all_cons ?_ (all_cons ?_ (all_cons ?_ (all_cons ?_ (all_cons ?_ (all_cons ?_ (all_cons ?_ (all_nil)))))))))))))))))))
        · exact fun _ => coreG_call _ 17 _ _ [] _ _ _ _ _ _ _ (by rfl) Try.func17 (by kernel_rfl) (by rfl) (by rfl) (wants_none) .nil (alive7_any)
        · exact core_stepAs _ (by rfl)
        · exact core_stepAs _ (by rfl)
        · exact core_stepAs _ (by rfl)
        · exact fun _ => coreG_callB _ 12 _ _ [.tmp 12] _ _ _ _ _ _ _ (by rfl) Try.func12 (by kernel_rfl) (by rfl) (by rfl) (wants_core 2 11 2 _ _ _ (by rfl) (by rfl) (by rfl) (known_core 2 11 _ _ (of_decide_eq_true (by rfl)) (by rfl) (by rfl) (by rfl)) _ (by rfl)) (.cons (known_core 3 12 _ _ (of_decide_eq_true (by rfl)) (by rfl) (by rfl) (by rfl)) .nil) ((fun u hb => HSZ.out u (bel_tr BW.out hb)))
        · exact core_stepAs _ (by rfl)
        · exact core_stepAs _ (by rfl)
        · exact core_stepAs _ (by rfl)
        · exact core_stepAs _ (by rfl)
        · exact fun _ => coreG_call _ 19 _ _ [.const (.int .u64 1)] _ _ _ _ _ _ _ (by rfl) Try.func19 (by kernel_rfl) (by rfl) (by rfl) (wants_core 7 16 7 _ _ _ (by rfl) (by rfl) (by rfl) (known_core 7 16 _ _ (of_decide_eq_true (by rfl)) (by rfl) (by rfl) (by rfl)) _ (by rfl)) (.cons (known_const _) .nil) (HO.out)
        · exact fun _ => coreG_call _ 18 _ _ [.tmp 17, .tmp 18] _ _ _ _ _ _ _ (by rfl) Try.func18 (by kernel_rfl) (by rfl) (by rfl) (wants_core 7 16 7 _ _ _ (by rfl) (by rfl) (by rfl) (known_core 7 16 _ _ (of_decide_eq_true (by rfl)) (by rfl) (by rfl) (by rfl)) _ (by rfl)) (.cons (known_core 8 17 _ _ (of_decide_eq_true (by rfl)) (by rfl) (by rfl) (by rfl)) (.cons (known_core 9 18 _ _ (of_decide_eq_true (by rfl)) (by rfl) (by rfl) (by rfl)) .nil)) (HKA.out)
        · exact core_stepAs _ (by rfl)
        · exact core_stepAs _ (by rfl)
        · exact core_stepAs _ (by rfl)
        · exact core_stepAs _ (by rfl)
        · exact core_stepAs _ (by rfl)
        · exact core_stepAs _ (by rfl)
        · exact core_stepAs _ (by rfl)
        · exact core_stepAs _ (by rfl)
      intro vs y2 hc
      obtain ⟨vv0, vv1, vv2, vv3, vv4, vv5, vv6, vv7, vv8, vv9, vv10, vv11, vv12, vv13, vv14, vv15, vv16, vv17, vv18, rfl⟩ := len19 vs hc.lv
      have qq0 : vv0 = .bool true := by obtain ⟨xx, hx, hy⟩ := hc.ok 0 _ rfl rfl; exact (Option.some.inj (show some vv0 = some xx from hx)).trans hy
      have qq1 : vv1 = .bool false := by obtain ⟨xx, hx, hy⟩ := hc.ok 1 _ rfl rfl; exact (Option.some.inj (show some vv1 = some xx from hx)).trans hy
      have qq2 : vv2 = .bool false := by obtain ⟨xx, hx, hy⟩ := hc.ok 2 _ rfl rfl; exact (Option.some.inj (show some vv2 = some xx from hx)).trans hy
      have qq3 : vv3 = .agg #[.int .u64 (wd N 0 : Nat), .int .u64 (wd N 1 : Nat), .int .u64 (wd N 2 : Nat), .int .u64 (wd N 3 : Nat), .int .u64 (wd Y 0 : Nat), .int .u64 (wd Y 1 : Nat), .int .u64 (wd Y 2 : Nat), .int .u64 (wd Y 3 : Nat), .slice a l cap] := by obtain ⟨xx, hx, hy⟩ := hc.ok 3 _ rfl rfl; exact (Option.some.inj (show some vv3 = some xx from hx)).trans hy
      have qq4 : vv4 = .int .i64 z := by obtain ⟨xx, hx, hy⟩ := hc.ok 4 _ rfl rfl; exact (Option.some.inj (show some vv4 = some xx from hx)).trans hy
      have qq5 : vv5 = .bool false := by obtain ⟨xx, hx, hy⟩ := hc.ok 5 _ rfl rfl; exact (Option.some.inj (show some vv5 = some xx from hx)).trans hy
      have qq6 : vv6 = .bool false := by obtain ⟨xx, hx, hy⟩ := hc.ok 6 _ rfl rfl; exact (Option.some.inj (show some vv6 = some xx from hx)).trans hy
      have qq7 : vv7 = .bool false := by obtain ⟨xx, hx, hy⟩ := hc.ok 7 _ rfl rfl; exact (Option.some.inj (show some vv7 = some xx from hx)).trans hy
      have qq8 : vv8 = .agg #[.int .u64 (wd A 0 : Nat), .int .u64 (wd A 1 : Nat), .int .u64 (wd A 2 : Nat), .int .u64 (wd A 3 : Nat)] := by obtain ⟨xx, hx, hy⟩ := hc.ok 8 _ rfl rfl; exact (Option.some.inj (show some vv8 = some xx from hx)).trans hy
      have qq9 : vv9 = .agg #[.int .u64 (wd 1 0 : Nat), .int .u64 (wd 1 1 : Nat), .int .u64 (wd 1 2 : Nat), .int .u64 (wd 1 3 : Nat)] := by obtain ⟨xx, hx, hy⟩ := hc.ok 9 _ rfl rfl; exact (Option.some.inj (show some vv9 = some xx from hx)).trans hy
      have qq10 : vv10 = .int .i64 ka := by obtain ⟨xx, hx, hy⟩ := hc.ok 10 _ rfl rfl; exact (Option.some.inj (show some vv10 = some xx from hx)).trans hy
      have qq11 : vv11 = .bool true := by obtain ⟨xx, hx, hy⟩ := hc.ok 11 _ rfl rfl; exact (Option.some.inj (show some vv11 = some xx from hx)).trans hy
      have qq12 : vv12 = .bool true := by obtain ⟨xx, hx, hy⟩ := hc.ok 12 _ rfl rfl; exact (Option.some.inj (show some vv12 = some xx from hx)).trans hy
      have qq13 : vv13 = .bool true := by obtain ⟨xx, hx, hy⟩ := hc.ok 13 _ rfl rfl; exact (Option.some.inj (show some vv13 = some xx from hx)).trans hy
      have qq14 : vv14 = undef := by obtain ⟨xx, hx, hy⟩ := hc.ok 14 _ rfl rfl; exact (Option.some.inj (show some vv14 = some xx from hx)).trans hy
      have qq15 : vv15 = undef := by obtain ⟨xx, hx, hy⟩ := hc.ok 15 _ rfl rfl; exact (Option.some.inj (show some vv15 = some xx from hx)).trans hy
      have qq16 : vv16 = undef := by obtain ⟨xx, hx, hy⟩ := hc.ok 16 _ rfl rfl; exact (Option.some.inj (show some vv16 = some xx from hx)).trans hy
      have qq17 : vv17 = undef := by obtain ⟨xx, hx, hy⟩ := hc.ok 17 _ rfl rfl; exact (Option.some.inj (show some vv17 = some xx from hx)).trans hy
      have qq18 : vv18 = .bool true := by obtain ⟨xx, hx, hy⟩ := hc.ok 18 _ rfl rfl; exact (Option.some.inj (show some vv18 = some xx from hx)).trans hy
      have BZ := hc.bel
      clear hc
      have Na := Fa.out.on BZ
      have Nb := Fb.out.on BZ
      have Nr := Fr.out.on BZ
      have NB := bel_tr BW.out BZ
      clear BW BZ Fa Fb Fr
      subst qq0 qq1 qq2 qq3 qq4 qq5 qq6 qq7 qq8 qq9 qq10 qq11 qq12 qq13 qq14 qq15 qq16 qq17 qq18
      simp only [List.map_cons, List.map_nil, over, Act.put, List.setIfInBounds_toArray, List.set_cons_zero, List.set_cons_succ]
      refine wpAnyH_done (by kernel_rfl) ?_ _
      refine NoPanic.normal ?_
      have Fa := Lib.hid Na
      have Fb := Lib.hid Nb
      have Fr := Lib.hid Nr
      have BW := Lib.hid NB
      clear NB Na Nb Nr
      go_wp2_with fail
      refine (alive7_any _).mono ?_
      rintro e v3 ⟨rfl, z3⟩
      have Na := Lib.hid (Fa.out.on z3)
      have Nb := Lib.hid (Fb.out.on z3)
      have Nr := Lib.hid (Fr.out.on z3)
      have NB := Lib.hid (bel_tr BW.out z3)
      clear BW z3 Fa Fb Fr
      have Fa := Na
      have Fb := Nb
      have Fr := Nr
      have BW := NB
      clear NB Na Nb Nr
      go_wp2
      go_ret
      exact ⟨rfl, BW.out⟩
end Go.Proofs.Ytnphoelbbgmehaa
