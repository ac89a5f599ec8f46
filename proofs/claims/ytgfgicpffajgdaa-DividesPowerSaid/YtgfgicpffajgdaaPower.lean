/-
  The walk of DividesPower: it answers true, and nothing that was there is changed.
-/
import Derived.Test.YtgfgicpffajgdaaAlive3
import Derived.Test.YtgfgicpffajgdaaShiftN
import Derived.Test.YtgfgicpffajgdaaBitsLN
namespace Go.Proofs.Ytgfgicpffajgdaa
open Go.RowKit
attribute [local go_sem ↓] Go.wp_at_zero Go.wp_at_succ

set_option maxRecDepth 100000 in
set_option maxHeartbeats 8000000 in
theorem power_some (A n k bl I T q r s G : Nat)
    (hn : n < 256)
    (hk : k ≤ n)
    (hbl : bl ≤ n)
    (OI : ∀ w, Calls Try.prog 36 #[.int .u64 1] w fun e w' => e = .returned (num I) ∧ Below w.heap.size w w')
    (S1 : ∀ w, Calls Try.prog 27 #[num I, .int .i64 (n : Nat)] w fun e w' => e = .returned (num T) ∧ Below w.heap.size w w')
    (D : ∀ w, Calls Try.prog 30 #[num A, num T] w fun e w' => e = .returned (.tuple #[num q, num r, .int .i64 0]) ∧ Below w.heap.size w w')
    (S2 : ∀ w, Calls Try.prog 27 #[num q, .int .i64 (n : Nat)] w fun e w' => e = .returned (num s) ∧ Below w.heap.size w w')
    (SU : ∀ w, Calls Try.prog 14 #[num A, num s] w fun e w' => e = .returned (.tuple #[num r, .int .u64 ((0 : Nat) : Int)]) ∧ Below w.heap.size w w')
    (GC : ∀ w, Calls Try.prog 34 #[num A, num T] w fun e w' => e = .returned (num G) ∧ Below w.heap.size w w')
    (B0 : ∀ j : Nat, j < k → ∀ w, Calls Try.prog 25 #[num A, .int .i64 (j : Nat)] w fun e w' => e = .returned (.int .u64 0) ∧ Below w.heap.size w w')
    (B1 : k < n → ∀ w, Calls Try.prog 25 #[num A, .int .i64 (k : Nat)] w fun e w' => e = .returned (.int .u64 1) ∧ Below w.heap.size w w')
    (S3 : ∀ w, Calls Try.prog 27 #[num A, .int .i64 (-(n : Int))] w fun e w' => e = .returned (num q) ∧ Below w.heap.size w w')
    (BL : ∀ w, Calls Try.prog 23 #[num r] w fun e w' => e = .returned (.int .i64 (bl : Nat)) ∧ Below w.heap.size w w')
    (S4 : ∀ w, Calls Try.prog 27 #[num I, .int .i64 (k : Nat)] w fun e w' => e = .returned (num G) ∧ Below w.heap.size w w')
    (w : World) : Calls Try.prog 12 #[num A, .int .u8 (n : Nat)] w fun e w' => e = .returned (.bool true) ∧ Below w.heap.size w w' := by
  have HOI := Lib.hid OI
  have HS1 := Lib.hid S1
  have HD := Lib.hid D
  have HS2 := Lib.hid S2
  have HSU := Lib.hid SU
  have HGC := Lib.hid GC
  have HB0 := Lib.hid B0
  have HB1 := Lib.hid B1
  have HS3 := Lib.hid S3
  have HBL := Lib.hid BL
  have HS4 := Lib.hid S4
  clear OI S1 D S2 SU GC B0 B1 S3 BL S4
  go_enter Try.func12, Try.ntmps12
  go_wp2_with fail
  have BW := Lib.hid (Below.refl w.heap.size w)
  have Na : At (w.alloc (.cells #[.int .u64 (wd A 0 : Nat), .int .u64 (wd A 1 : Nat), .int .u64 (wd A 2 : Nat), .int .u64 (wd A 3 : Nat)] 24)) (w.heap.size) 24 #[.int .u64 (wd A 0 : Nat), .int .u64 (wd A 1 : Nat), .int .u64 (wd A 2 : Nat), .int .u64 (wd A 3 : Nat)] := At.at_ _ _ _ _ (by simp)
  have NB : Below w.heap.size w (w.alloc (.cells #[.int .u64 (wd A 0 : Nat), .int .u64 (wd A 1 : Nat), .int .u64 (wd A 2 : Nat), .int .u64 (wd A 3 : Nat)] 24)) := gr_alloc BW.out _
  clear BW 
  generalize (w.alloc (.cells #[.int .u64 (wd A 0 : Nat), .int .u64 (wd A 1 : Nat), .int .u64 (wd A 2 : Nat), .int .u64 (wd A 3 : Nat)] 24)) = W1 at *
  obtain ⟨ga, hg0⟩ : ∃ g, g = w.heap.size := ⟨_, rfl⟩
  rw [← hg0] at Na ⊢
  clear hg0
  have Fa := Lib.hid Na
  have BW := Lib.hid NB
  clear NB Na
  refine (HOI.out _).mono ?_
  rintro e v2 ⟨rfl, z2⟩
  have Na := Lib.hid (Fa.out.on z2)
  have NB := Lib.hid (bel_tr BW.out z2)
  clear BW z2 Fa
  have Fa := Na
  have BW := NB
  clear NB Na
  go_wp2_with fail
  refine (HS1.out _).mono ?_
  rintro e v3 ⟨rfl, z3⟩
  have Na := Lib.hid (Fa.out.on z3)
  have NB := Lib.hid (bel_tr BW.out z3)
  clear BW z3 Fa
  have Fa := Na
  have BW := NB
  clear NB Na
  have La := Fa.out.lt
  have ca0 : v3.cell? ⟨ga, 0, none⟩ = some (.int .u64 (wd A 0 : Nat)) := Fa.out.cell 0
  have ca1 : v3.cell? ⟨ga, 1, none⟩ = some (.int .u64 (wd A 1 : Nat)) := Fa.out.cell 1
  have ca2 : v3.cell? ⟨ga, 2, none⟩ = some (.int .u64 (wd A 2 : Nat)) := Fa.out.cell 2
  have ca3 : v3.cell? ⟨ga, 3, none⟩ = some (.int .u64 (wd A 3 : Nat)) := Fa.out.cell 3
  go_wp2_with fail
  clear La ca0 ca1 ca2 ca3
  have Ntwo : At (v3.alloc (.cells #[.int .u64 (wd T 0 : Nat), .int .u64 (wd T 1 : Nat), .int .u64 (wd T 2 : Nat), .int .u64 (wd T 3 : Nat)] 24)) (v3.heap.size) 24 #[.int .u64 (wd T 0 : Nat), .int .u64 (wd T 1 : Nat), .int .u64 (wd T 2 : Nat), .int .u64 (wd T 3 : Nat)] := At.at_ _ _ _ _ (by simp)
  have Na : At (v3.alloc (.cells #[.int .u64 (wd T 0 : Nat), .int .u64 (wd T 1 : Nat), .int .u64 (wd T 2 : Nat), .int .u64 (wd T 3 : Nat)] 24)) ga 24 #[.int .u64 (wd A 0 : Nat), .int .u64 (wd A 1 : Nat), .int .u64 (wd A 2 : Nat), .int .u64 (wd A 3 : Nat)] := Fa.out.alloc _
  have NB : Below w.heap.size w (v3.alloc (.cells #[.int .u64 (wd T 0 : Nat), .int .u64 (wd T 1 : Nat), .int .u64 (wd T 2 : Nat), .int .u64 (wd T 3 : Nat)] 24)) := gr_alloc BW.out _
  clear BW Fa
  generalize (v3.alloc (.cells #[.int .u64 (wd T 0 : Nat), .int .u64 (wd T 1 : Nat), .int .u64 (wd T 2 : Nat), .int .u64 (wd T 3 : Nat)] 24)) = W4 at *
  generalize v3.heap.size = gtwo at *
  have Fa := Lib.hid Na
  have Ftwo := Lib.hid Ntwo
  have BW := Lib.hid NB
  clear NB Na Ntwo
  refine (HD.out _).mono ?_
  rintro e v5 ⟨rfl, z5⟩
  have Na := Lib.hid (Fa.out.on z5)
  have Ntwo := Lib.hid (Ftwo.out.on z5)
  have NB := Lib.hid (bel_tr BW.out z5)
  clear BW z5 Fa Ftwo
  have Fa := Na
  have Ftwo := Ntwo
  have BW := NB
  clear NB Na Ntwo
  go_wp2_with fail
  have Nq : At ((v5.alloc (.cells #[.int .u64 (wd q 0 : Nat), .int .u64 (wd q 1 : Nat), .int .u64 (wd q 2 : Nat), .int .u64 (wd q 3 : Nat)] 24)).alloc (.cells #[.int .u64 (wd r 0 : Nat), .int .u64 (wd r 1 : Nat), .int .u64 (wd r 2 : Nat), .int .u64 (wd r 3 : Nat)] 24)) (v5.heap.size) 24 #[.int .u64 (wd q 0 : Nat), .int .u64 (wd q 1 : Nat), .int .u64 (wd q 2 : Nat), .int .u64 (wd q 3 : Nat)] := (At.at_ _ _ _ _ (by simp)).alloc _
  have Nr : At ((v5.alloc (.cells #[.int .u64 (wd q 0 : Nat), .int .u64 (wd q 1 : Nat), .int .u64 (wd q 2 : Nat), .int .u64 (wd q 3 : Nat)] 24)).alloc (.cells #[.int .u64 (wd r 0 : Nat), .int .u64 (wd r 1 : Nat), .int .u64 (wd r 2 : Nat), .int .u64 (wd r 3 : Nat)] 24)) (v5.heap.size + 1) 24 #[.int .u64 (wd r 0 : Nat), .int .u64 (wd r 1 : Nat), .int .u64 (wd r 2 : Nat), .int .u64 (wd r 3 : Nat)] := At.at_ _ _ _ _ (by simp)
  have Na : At ((v5.alloc (.cells #[.int .u64 (wd q 0 : Nat), .int .u64 (wd q 1 : Nat), .int .u64 (wd q 2 : Nat), .int .u64 (wd q 3 : Nat)] 24)).alloc (.cells #[.int .u64 (wd r 0 : Nat), .int .u64 (wd r 1 : Nat), .int .u64 (wd r 2 : Nat), .int .u64 (wd r 3 : Nat)] 24)) ga 24 #[.int .u64 (wd A 0 : Nat), .int .u64 (wd A 1 : Nat), .int .u64 (wd A 2 : Nat), .int .u64 (wd A 3 : Nat)] := (Fa.out.alloc _).alloc _
  have Ntwo : At ((v5.alloc (.cells #[.int .u64 (wd q 0 : Nat), .int .u64 (wd q 1 : Nat), .int .u64 (wd q 2 : Nat), .int .u64 (wd q 3 : Nat)] 24)).alloc (.cells #[.int .u64 (wd r 0 : Nat), .int .u64 (wd r 1 : Nat), .int .u64 (wd r 2 : Nat), .int .u64 (wd r 3 : Nat)] 24)) gtwo 24 #[.int .u64 (wd T 0 : Nat), .int .u64 (wd T 1 : Nat), .int .u64 (wd T 2 : Nat), .int .u64 (wd T 3 : Nat)] := (Ftwo.out.alloc _).alloc _
  have NB : Below w.heap.size w ((v5.alloc (.cells #[.int .u64 (wd q 0 : Nat), .int .u64 (wd q 1 : Nat), .int .u64 (wd q 2 : Nat), .int .u64 (wd q 3 : Nat)] 24)).alloc (.cells #[.int .u64 (wd r 0 : Nat), .int .u64 (wd r 1 : Nat), .int .u64 (wd r 2 : Nat), .int .u64 (wd r 3 : Nat)] 24)) := gr_alloc (gr_alloc BW.out _) _
  clear BW Fa Ftwo
  generalize ((v5.alloc (.cells #[.int .u64 (wd q 0 : Nat), .int .u64 (wd q 1 : Nat), .int .u64 (wd q 2 : Nat), .int .u64 (wd q 3 : Nat)] 24)).alloc (.cells #[.int .u64 (wd r 0 : Nat), .int .u64 (wd r 1 : Nat), .int .u64 (wd r 2 : Nat), .int .u64 (wd r 3 : Nat)] 24)) = W6 at *
  generalize v5.heap.size + 1 = gr at *
  generalize v5.heap.size = gq at *
  have Fa := Lib.hid Na
  have Ftwo := Lib.hid Ntwo
  have Fq := Lib.hid Nq
  have Fr := Lib.hid Nr
  have BW := Lib.hid NB
  clear NB Na Ntwo Nq Nr
  try simp only [List.append_eq, List.cons_append, List.nil_append]
  refine wp_region_noPanic ?_
  refine wp_region_held_drew (S := fun w' => True) (by kernel_rfl) (trivial) (fun _ => ?_)
  refine wpAnyH_cores (fuel := 2) (⟨0, 25, [], Kind.val (.agg #[.int .u64 (wd A 0 : Nat), .int .u64 (wd A 1 : Nat), .int .u64 (wd A 2 : Nat), .int .u64 (wd A 3 : Nat)]), false⟩ :: ⟨1, 26, [], Kind.val (.agg #[.int .u64 (wd q 0 : Nat), .int .u64 (wd q 1 : Nat), .int .u64 (wd q 2 : Nat), .int .u64 (wd q 3 : Nat)]), false⟩ :: ⟨2, 27, [], Kind.val (.int .u8 (n : Nat)), true⟩ :: ⟨3, 28, [2], Kind.val (.int .i64 (n : Nat)), true⟩ :: ⟨4, 29, [1, 3], Kind.val (.agg #[.int .u64 (wd s 0 : Nat), .int .u64 (wd s 1 : Nat), .int .u64 (wd s 2 : Nat), .int .u64 (wd s 3 : Nat)]), false⟩ :: ⟨5, 30, [0, 4], Kind.val (.tuple #[.agg #[.int .u64 (wd r 0 : Nat), .int .u64 (wd r 1 : Nat), .int .u64 (wd r 2 : Nat), .int .u64 (wd r 3 : Nat)], .int .u64 ((0 : Nat) : Int)]), false⟩ :: ⟨6, 24, [5], Kind.val (.tuple #[.agg #[.int .u64 (wd r 0 : Nat), .int .u64 (wd r 1 : Nat), .int .u64 (wd r 2 : Nat), .int .u64 (wd r 3 : Nat)], .int .u64 ((0 : Nat) : Int)]), true⟩ :: ⟨7, 31, [6], Kind.val (.agg #[.int .u64 (wd r 0 : Nat), .int .u64 (wd r 1 : Nat), .int .u64 (wd r 2 : Nat), .int .u64 (wd r 3 : Nat)]), true⟩ :: ⟨8, 32, [6], Kind.val (.int .u64 ((0 : Nat) : Int)), true⟩ :: ⟨9, 9, [], Kind.cell W6.heap.size 24 #[.int .u64 0, .int .u64 0, .int .u64 0, .int .u64 0], false⟩ :: []) _ _ W6 _ ?_ ?_ ?_ ?_ ?_ ?_ ?_ ?_ ?_ ?_ ?_
  · rfl
  · kernel_rfl
  · exact of_decide_eq_true rfl
  · exact all_cons ⟨_, rfl, rfl⟩ (all_cons ⟨_, rfl, rfl⟩ (all_cons ⟨_, rfl, rfl⟩ (all_cons ⟨_, rfl, rfl⟩ (all_cons ⟨_, rfl, rfl⟩ (all_cons ⟨_, rfl, rfl⟩ (all_cons ⟨_, rfl, rfl⟩ (all_cons ⟨_, rfl, rfl⟩ (all_cons ⟨_, rfl, rfl⟩ (all_cons ⟨_, rfl, rfl⟩ (all_nil))))))))))
  · exact fun _ hb => trivial
  · exact (Below.refl _ _).drew
  · kernel_rfl
  · exact fun _ _ _ _ _ h => h
  · refine all_cons ?_ (all_cons ?_ (all_cons ?_ (all_cons ?_ (all_cons ?_ (all_cons ?_ (all_cons ?_ (all_cons ?_ (all_cons ?_ (all_cons ?_ (all_nil))))))))))
    · exact core_pureAs _ (by rfl)
    · exact core_pureAs _ (by rfl)
    · exact core_move _ _ _ _ _ _ (by rfl) (by rfl) (known_old 1 _ (of_decide_eq_true (by rfl)) (by rfl))
    · exact coreG_conv _ _ _ _ _ _ _ _ _ _ (by rfl) (by rfl) (wants_none) (known_core 2 27 _ _ (of_decide_eq_true (by rfl)) (by rfl) (by rfl) (by rfl)) (fun ρ w hx => by simp only [execOp, hx]; simp [go_sem]; try (rw [IntKind.wrap_i64]; omega))
    · exact core_pureAs _ (by rfl)
    · exact core_pureAs _ (by rfl)
    · exact core_move _ _ _ _ _ _ (by rfl) (by rfl) (known_core 5 30 _ _ (of_decide_eq_true (by rfl)) (by rfl) (by rfl) (by rfl))
    · exact core_extract _ _ 0 _ _ _ _ _ (by rfl) (by rfl) (known_core 6 24 _ _ (of_decide_eq_true (by rfl)) (by rfl) (by rfl) (by rfl)) (by rfl)
    · exact core_extract _ _ 1 _ _ _ _ _ (by rfl) (by rfl) (known_core 6 24 _ _ (of_decide_eq_true (by rfl)) (by rfl) (by rfl) (by rfl)) (by rfl)
    · exact core_pureAs _ (by rfl)
  · refine all_cons ?_ (all_cons ?_ (all_cons ?_ (all_cons ?_ (all_cons ?_ (all_cons ?_ (all_cons ?_ (all_cons ?_ (all_cons ?_ (all_cons ?_ (all_nil))))))))))
    · exact fun _ => core_load _ _ _ _ _ ga _ _ _ _ (by rfl) (by rfl) (known_old 2 _ (of_decide_eq_true (by rfl)) (by rfl)) Fa.out
    · exact fun _ => core_load _ _ _ _ _ gq _ _ _ _ (by rfl) (by rfl) (known_old 6 _ (of_decide_eq_true (by rfl)) (by rfl)) Fq.out
    · exact core_stepAs _ (by rfl)
    · exact core_stepAs _ (by rfl)
    · exact fun _ => core_call _ 27 _ _ [.tmp 26, .tmp 28] _ _ _ _ _ _ (by rfl) Try.func27 (by kernel_rfl) (by rfl) (by rfl) (.cons (known_core 1 26 _ _ (of_decide_eq_true (by rfl)) (by rfl) (by rfl) (by rfl)) (.cons (known_core 3 28 _ _ (of_decide_eq_true (by rfl)) (by rfl) (by rfl) (by rfl)) .nil)) (HS2.out)
    · exact fun _ => core_call _ 14 _ _ [.tmp 25, .tmp 29] _ _ _ _ _ _ (by rfl) Try.func14 (by kernel_rfl) (by rfl) (by rfl) (.cons (known_core 0 25 _ _ (of_decide_eq_true (by rfl)) (by rfl) (by rfl) (by rfl)) (.cons (known_core 4 29 _ _ (of_decide_eq_true (by rfl)) (by rfl) (by rfl) (by rfl)) .nil)) (HSU.out)
    · exact core_stepAs _ (by rfl)
    · exact core_stepAs _ (by rfl)
    · exact core_stepAs _ (by rfl)
    · exact fun _ => core_alloc _ _ _ _ _ (by rfl) (by rfl) (Nat.le_refl _)
  intro vs y7 hc
  obtain ⟨vv0, vv1, vv2, vv3, vv4, vv5, vv6, vv7, vv8, vv9, rfl⟩ := len10 vs hc.lv
  have qq0 : vv0 = .agg #[.int .u64 (wd A 0 : Nat), .int .u64 (wd A 1 : Nat), .int .u64 (wd A 2 : Nat), .int .u64 (wd A 3 : Nat)] := by obtain ⟨xx, hx, hy⟩ := hc.ok 0 _ rfl rfl; exact (Option.some.inj (show some vv0 = some xx from hx)).trans hy
  have qq1 : vv1 = .agg #[.int .u64 (wd q 0 : Nat), .int .u64 (wd q 1 : Nat), .int .u64 (wd q 2 : Nat), .int .u64 (wd q 3 : Nat)] := by obtain ⟨xx, hx, hy⟩ := hc.ok 1 _ rfl rfl; exact (Option.some.inj (show some vv1 = some xx from hx)).trans hy
  have qq2 : vv2 = .int .u8 (n : Nat) := by obtain ⟨xx, hx, hy⟩ := hc.ok 2 _ rfl rfl; exact (Option.some.inj (show some vv2 = some xx from hx)).trans hy
  have qq3 : vv3 = .int .i64 (n : Nat) := by obtain ⟨xx, hx, hy⟩ := hc.ok 3 _ rfl rfl; exact (Option.some.inj (show some vv3 = some xx from hx)).trans hy
  have qq4 : vv4 = .agg #[.int .u64 (wd s 0 : Nat), .int .u64 (wd s 1 : Nat), .int .u64 (wd s 2 : Nat), .int .u64 (wd s 3 : Nat)] := by obtain ⟨xx, hx, hy⟩ := hc.ok 4 _ rfl rfl; exact (Option.some.inj (show some vv4 = some xx from hx)).trans hy
  have qq5 : vv5 = .tuple #[.agg #[.int .u64 (wd r 0 : Nat), .int .u64 (wd r 1 : Nat), .int .u64 (wd r 2 : Nat), .int .u64 (wd r 3 : Nat)], .int .u64 ((0 : Nat) : Int)] := by obtain ⟨xx, hx, hy⟩ := hc.ok 5 _ rfl rfl; exact (Option.some.inj (show some vv5 = some xx from hx)).trans hy
  have qq6 : vv6 = .tuple #[.agg #[.int .u64 (wd r 0 : Nat), .int .u64 (wd r 1 : Nat), .int .u64 (wd r 2 : Nat), .int .u64 (wd r 3 : Nat)], .int .u64 ((0 : Nat) : Int)] := by obtain ⟨xx, hx, hy⟩ := hc.ok 6 _ rfl rfl; exact (Option.some.inj (show some vv6 = some xx from hx)).trans hy
  have qq7 : vv7 = .agg #[.int .u64 (wd r 0 : Nat), .int .u64 (wd r 1 : Nat), .int .u64 (wd r 2 : Nat), .int .u64 (wd r 3 : Nat)] := by obtain ⟨xx, hx, hy⟩ := hc.ok 7 _ rfl rfl; exact (Option.some.inj (show some vv7 = some xx from hx)).trans hy
  have qq8 : vv8 = .int .u64 ((0 : Nat) : Int) := by obtain ⟨xx, hx, hy⟩ := hc.ok 8 _ rfl rfl; exact (Option.some.inj (show some vv8 = some xx from hx)).trans hy
  obtain ⟨xx, hx, gleft, hv, Eleft, Aleft⟩ := hc.ok 9 _ rfl rfl
  have qq9 : vv9 = .pointer (some ⟨gleft, 0, none⟩) := (Option.some.inj (show some vv9 = some xx from hx)).trans hv
  clear hx hv
  have BZ := hc.bel
  clear hc
  have Na := Fa.out.on BZ
  have Ntwo := Ftwo.out.on BZ
  have Nq := Fq.out.on BZ
  have Nr := Fr.out.on BZ
  have Daleft : ga ≠ gleft := by have := Fa.out.lt; omega
  have Dtwoleft : gtwo ≠ gleft := by have := Ftwo.out.lt; omega
  have Dqleft : gq ≠ gleft := by have := Fq.out.lt; omega
  have Drleft : gr ≠ gleft := by have := Fr.out.lt; omega
  have HSZ7 := BW.out.size
  have NB := bel_tr BW.out BZ
  clear BW BZ Fa Ftwo Fq Fr
  subst qq0 qq1 qq2 qq3 qq4 qq5 qq6 qq7 qq8 qq9
  simp only [List.map_cons, List.map_nil, over, Act.put, List.setIfInBounds_toArray, List.set_cons_zero, List.set_cons_succ]
  have OLD := Aleft
  replace Na := put4_far Na Daleft (.int .u64 (wd r 0 : Nat)) (.int .u64 (wd r 1 : Nat)) (.int .u64 (wd r 2 : Nat)) (.int .u64 (wd r 3 : Nat))
  replace Ntwo := put4_far Ntwo Dtwoleft (.int .u64 (wd r 0 : Nat)) (.int .u64 (wd r 1 : Nat)) (.int .u64 (wd r 2 : Nat)) (.int .u64 (wd r 3 : Nat))
  replace Nq := put4_far Nq Dqleft (.int .u64 (wd r 0 : Nat)) (.int .u64 (wd r 1 : Nat)) (.int .u64 (wd r 2 : Nat)) (.int .u64 (wd r 3 : Nat))
  replace Nr := put4_far Nr Drleft (.int .u64 (wd r 0 : Nat)) (.int .u64 (wd r 1 : Nat)) (.int .u64 (wd r 2 : Nat)) (.int .u64 (wd r 3 : Nat))
  replace Aleft := put4_at Aleft (.int .u64 (wd r 0 : Nat)) (.int .u64 (wd r 1 : Nat)) (.int .u64 (wd r 2 : Nat)) (.int .u64 (wd r 3 : Nat))
  replace NB := put4_below NB (Nat.le_trans HSZ7 Eleft) (.int .u64 (wd r 0 : Nat)) (.int .u64 (wd r 1 : Nat)) (.int .u64 (wd r 2 : Nat)) (.int .u64 (wd r 3 : Nat))
  refine store_one (i := 10) _ _ _ _ _ gleft _ _ _ _ _ _ _ _ (by kernel_rfl) (by rfl) (by rfl) (by rfl) OLD (trivial) ?_
  clear OLD
  generalize (put4 y7 gleft (.int .u64 (wd r 0 : Nat)) (.int .u64 (wd r 1 : Nat)) (.int .u64 (wd r 2 : Nat)) (.int .u64 (wd r 3 : Nat))) = y7_10 at *
  refine assign_one (i := 11) _ 10 _ _ _ _ (by kernel_rfl) (by rfl) (by rfl) (trivial) ?_
  try simp only [Act.put, List.setIfInBounds_toArray, List.set_cons_zero, List.set_cons_succ]
  refine wpAnyH_done (by kernel_rfl) ?_ _
  refine NoPanic.normal ?_
  have Fa := Lib.hid Na
  have Ftwo := Lib.hid Ntwo
  have Fq := Lib.hid Nq
  have Fr := Lib.hid Nr
  have Fleft := Lib.hid Aleft
  have BW := Lib.hid NB
  clear NB Na Ntwo Nq Nr Aleft
  clear Eleft
  clear HSZ7
  have La := Fa.out.lt
  have ca0 : y7_10.cell? ⟨ga, 0, none⟩ = some (.int .u64 (wd A 0 : Nat)) := Fa.out.cell 0
  have ca1 : y7_10.cell? ⟨ga, 1, none⟩ = some (.int .u64 (wd A 1 : Nat)) := Fa.out.cell 1
  have ca2 : y7_10.cell? ⟨ga, 2, none⟩ = some (.int .u64 (wd A 2 : Nat)) := Fa.out.cell 2
  have ca3 : y7_10.cell? ⟨ga, 3, none⟩ = some (.int .u64 (wd A 3 : Nat)) := Fa.out.cell 3
  have Ltwo := Ftwo.out.lt
  have ctwo0 : y7_10.cell? ⟨gtwo, 0, none⟩ = some (.int .u64 (wd T 0 : Nat)) := Ftwo.out.cell 0
  have ctwo1 : y7_10.cell? ⟨gtwo, 1, none⟩ = some (.int .u64 (wd T 1 : Nat)) := Ftwo.out.cell 1
  have ctwo2 : y7_10.cell? ⟨gtwo, 2, none⟩ = some (.int .u64 (wd T 2 : Nat)) := Ftwo.out.cell 2
  have ctwo3 : y7_10.cell? ⟨gtwo, 3, none⟩ = some (.int .u64 (wd T 3 : Nat)) := Ftwo.out.cell 3
  go_wp2_with fail
  clear La ca0 ca1 ca2 ca3 Ltwo ctwo0 ctwo1 ctwo2 ctwo3
  refine (HGC.out _).mono ?_
  rintro e v8 ⟨rfl, z8⟩
  have Na := Lib.hid (Fa.out.on z8)
  have Ntwo := Lib.hid (Ftwo.out.on z8)
  have Nq := Lib.hid (Fq.out.on z8)
  have Nr := Lib.hid (Fr.out.on z8)
  have Nleft := Lib.hid (Fleft.out.on z8)
  have NB := Lib.hid (bel_tr BW.out z8)
  clear BW z8 Fa Ftwo Fq Fr Fleft
  have Fa := Na
  have Ftwo := Ntwo
  have Fq := Nq
  have Fr := Nr
  have Fleft := Nleft
  have BW := NB
  clear NB Na Ntwo Nq Nr Nleft
  go_wp2_with fail
  have Ng : At (v8.alloc (.cells #[.int .u64 (wd G 0 : Nat), .int .u64 (wd G 1 : Nat), .int .u64 (wd G 2 : Nat), .int .u64 (wd G 3 : Nat)] 24)) (v8.heap.size) 24 #[.int .u64 (wd G 0 : Nat), .int .u64 (wd G 1 : Nat), .int .u64 (wd G 2 : Nat), .int .u64 (wd G 3 : Nat)] := At.at_ _ _ _ _ (by simp)
  have Na : At (v8.alloc (.cells #[.int .u64 (wd G 0 : Nat), .int .u64 (wd G 1 : Nat), .int .u64 (wd G 2 : Nat), .int .u64 (wd G 3 : Nat)] 24)) ga 24 #[.int .u64 (wd A 0 : Nat), .int .u64 (wd A 1 : Nat), .int .u64 (wd A 2 : Nat), .int .u64 (wd A 3 : Nat)] := Fa.out.alloc _
  have Ntwo : At (v8.alloc (.cells #[.int .u64 (wd G 0 : Nat), .int .u64 (wd G 1 : Nat), .int .u64 (wd G 2 : Nat), .int .u64 (wd G 3 : Nat)] 24)) gtwo 24 #[.int .u64 (wd T 0 : Nat), .int .u64 (wd T 1 : Nat), .int .u64 (wd T 2 : Nat), .int .u64 (wd T 3 : Nat)] := Ftwo.out.alloc _
  have Nq : At (v8.alloc (.cells #[.int .u64 (wd G 0 : Nat), .int .u64 (wd G 1 : Nat), .int .u64 (wd G 2 : Nat), .int .u64 (wd G 3 : Nat)] 24)) gq 24 #[.int .u64 (wd q 0 : Nat), .int .u64 (wd q 1 : Nat), .int .u64 (wd q 2 : Nat), .int .u64 (wd q 3 : Nat)] := Fq.out.alloc _
  have Nr : At (v8.alloc (.cells #[.int .u64 (wd G 0 : Nat), .int .u64 (wd G 1 : Nat), .int .u64 (wd G 2 : Nat), .int .u64 (wd G 3 : Nat)] 24)) gr 24 #[.int .u64 (wd r 0 : Nat), .int .u64 (wd r 1 : Nat), .int .u64 (wd r 2 : Nat), .int .u64 (wd r 3 : Nat)] := Fr.out.alloc _
  have Nleft : At (v8.alloc (.cells #[.int .u64 (wd G 0 : Nat), .int .u64 (wd G 1 : Nat), .int .u64 (wd G 2 : Nat), .int .u64 (wd G 3 : Nat)] 24)) gleft 24 #[.int .u64 (wd r 0 : Nat), .int .u64 (wd r 1 : Nat), .int .u64 (wd r 2 : Nat), .int .u64 (wd r 3 : Nat)] := Fleft.out.alloc _
  have NB : Below w.heap.size w (v8.alloc (.cells #[.int .u64 (wd G 0 : Nat), .int .u64 (wd G 1 : Nat), .int .u64 (wd G 2 : Nat), .int .u64 (wd G 3 : Nat)] 24)) := gr_alloc BW.out _
  clear BW Fa Ftwo Fq Fr Fleft
  generalize (v8.alloc (.cells #[.int .u64 (wd G 0 : Nat), .int .u64 (wd G 1 : Nat), .int .u64 (wd G 2 : Nat), .int .u64 (wd G 3 : Nat)] 24)) = W9 at *
  generalize v8.heap.size = gg at *
  have Fa := Lib.hid Na
  have Ftwo := Lib.hid Ntwo
  have Fq := Lib.hid Nq
  have Fr := Lib.hid Nr
  have Fleft := Lib.hid Nleft
  have Fg := Lib.hid Ng
  have BW := Lib.hid NB
  clear NB Na Ntwo Nq Nr Nleft Ng
  clear Ftwo
  go_loopw [12] (fun s wr => ∃ j : Nat, j ≤ k ∧ s = .int .i64 (j : Nat) ∧ Hid (At wr ga 24 #[.int .u64 (wd A 0 : Nat), .int .u64 (wd A 1 : Nat), .int .u64 (wd A 2 : Nat), .int .u64 (wd A 3 : Nat)] ∧ At wr gq 24 #[.int .u64 (wd q 0 : Nat), .int .u64 (wd q 1 : Nat), .int .u64 (wd q 2 : Nat), .int .u64 (wd q 3 : Nat)] ∧ At wr gr 24 #[.int .u64 (wd r 0 : Nat), .int .u64 (wd r 1 : Nat), .int .u64 (wd r 2 : Nat), .int .u64 (wd r 3 : Nat)] ∧ At wr gleft 24 #[.int .u64 (wd r 0 : Nat), .int .u64 (wd r 1 : Nat), .int .u64 (wd r 2 : Nat), .int .u64 (wd r 3 : Nat)] ∧ At wr gg 24 #[.int .u64 (wd G 0 : Nat), .int .u64 (wd G 1 : Nat), .int .u64 (wd G 2 : Nat), .int .u64 (wd G 3 : Nat)] ∧ Below w.heap.size w wr)) (fun s _ => k - (intOf s).toNat)
  case atStart => exact ⟨0, by omega, rfl, Fa.out, Fq.out, Fr.out, Fleft.out, Fg.out, BW.out⟩
  case round =>
    obtain ⟨j, hj, rfl, hM⟩ := hrel
    clear BW Fa Fq Fr Fleft Fg
    have Fa := Lib.hid hM.out.1
    have Fq := Lib.hid hM.out.2.1
    have Fr := Lib.hid hM.out.2.2.1
    have Fleft := Lib.hid hM.out.2.2.2.1
    have Fg := Lib.hid hM.out.2.2.2.2.1
    have BW := Lib.hid hM.out.2.2.2.2.2
    clear hM
    by_cases hjk : j < k
    · have hjn : j < n := by omega
      have CB := HB0.out j hjk
      have HBJ := Lib.hid CB
      clear CB
      have La := Fa.out.lt
      have ca0 : wr.cell? ⟨ga, 0, none⟩ = some (.int .u64 (wd A 0 : Nat)) := Fa.out.cell 0
      have ca1 : wr.cell? ⟨ga, 1, none⟩ = some (.int .u64 (wd A 1 : Nat)) := Fa.out.cell 1
      have ca2 : wr.cell? ⟨ga, 2, none⟩ = some (.int .u64 (wd A 2 : Nat)) := Fa.out.cell 2
      have ca3 : wr.cell? ⟨ga, 3, none⟩ = some (.int .u64 (wd A 3 : Nat)) := Fa.out.cell 3
      go_wp2_with fail
      clear La ca0 ca1 ca2 ca3
      refine (HBJ.out _).mono ?_
      rintro e v10 ⟨rfl, z10⟩
      have Na := Lib.hid (Fa.out.on z10)
      have Nq := Lib.hid (Fq.out.on z10)
      have Nr := Lib.hid (Fr.out.on z10)
      have Nleft := Lib.hid (Fleft.out.on z10)
      have Ng := Lib.hid (Fg.out.on z10)
      have NB := Lib.hid (bel_tr BW.out z10)
      clear BW z10 Fa Fq Fr Fleft Fg
      have Fa := Na
      have Fq := Nq
      have Fr := Nr
      have Fleft := Nleft
      have Fg := Ng
      have BW := NB
      clear NB Na Nq Nr Nleft Ng
      go_wp2_with fail
      go_roundw
      case rel =>
        first
          | refine ⟨j + 1, by omega, by go_num, ?_⟩
          | ((repeat apply Exists.intro); refine ⟨⟨j + 1, by omega, by go_num, ?_⟩, rfl⟩)
        exact ⟨Fa.out, Fq.out, Fr.out, Fleft.out, Fg.out, BW.out⟩
      case measure => simp [intOf]; omega
    · obtain rfl : k = j := by omega
      by_cases hkn : k < n
      · have CB := HB1.out hkn
        have HBJ := Lib.hid CB
        clear CB
        have La := Fa.out.lt
        have ca0 : wr.cell? ⟨ga, 0, none⟩ = some (.int .u64 (wd A 0 : Nat)) := Fa.out.cell 0
        have ca1 : wr.cell? ⟨ga, 1, none⟩ = some (.int .u64 (wd A 1 : Nat)) := Fa.out.cell 1
        have ca2 : wr.cell? ⟨ga, 2, none⟩ = some (.int .u64 (wd A 2 : Nat)) := Fa.out.cell 2
        have ca3 : wr.cell? ⟨ga, 3, none⟩ = some (.int .u64 (wd A 3 : Nat)) := Fa.out.cell 3
        go_wp2_with fail
        clear La ca0 ca1 ca2 ca3
        refine (HBJ.out _).mono ?_
        rintro e v10 ⟨rfl, z10⟩
        have Na := Lib.hid (Fa.out.on z10)
        have Nq := Lib.hid (Fq.out.on z10)
        have Nr := Lib.hid (Fr.out.on z10)
        have Nleft := Lib.hid (Fleft.out.on z10)
        have Ng := Lib.hid (Fg.out.on z10)
        have NB := Lib.hid (bel_tr BW.out z10)
        clear BW z10 Fa Fq Fr Fleft Fg
        have Fa := Na
        have Fq := Nq
        have Fr := Nr
        have Fleft := Nleft
        have Fg := Ng
        have BW := NB
        clear NB Na Nq Nr Nleft Ng
        go_wp2_with fail
        try simp only [List.append_eq, List.cons_append, List.nil_append]
        refine wp_region_noPanic ?_
        refine wp_region_held_drew (S := fun w' => At w' gq 24 #[.int .u64 (wd q 0 : Nat), .int .u64 (wd q 1 : Nat), .int .u64 (wd q 2 : Nat), .int .u64 (wd q 3 : Nat)] ∧ At w' ga 24 #[.int .u64 (wd A 0 : Nat), .int .u64 (wd A 1 : Nat), .int .u64 (wd A 2 : Nat), .int .u64 (wd A 3 : Nat)] ∧ At w' gr 24 #[.int .u64 (wd r 0 : Nat), .int .u64 (wd r 1 : Nat), .int .u64 (wd r 2 : Nat), .int .u64 (wd r 3 : Nat)] ∧ At w' gleft 24 #[.int .u64 (wd r 0 : Nat), .int .u64 (wd r 1 : Nat), .int .u64 (wd r 2 : Nat), .int .u64 (wd r 3 : Nat)] ∧ At w' gg 24 #[.int .u64 (wd G 0 : Nat), .int .u64 (wd G 1 : Nat), .int .u64 (wd G 2 : Nat), .int .u64 (wd G 3 : Nat)]) (by kernel_rfl) (⟨Fq.out.drew, Fa.out.drew, Fr.out.drew, Fleft.out.drew, Fg.out.drew⟩) (fun _ => ?_)
        refine wpAnyH_cores (fuel := 1) (⟨0, 48, [], Kind.val (.bool true), false⟩ :: ⟨1, 49, [0], Kind.val (.bool true), true⟩ :: ⟨2, 50, [1], Kind.val (.int .i64 0), true⟩ :: ⟨3, 51, [1, 2], Kind.val (.bool true), true⟩ :: ⟨4, 52, [1, 3], Kind.val (.bool true), true⟩ :: ⟨5, 53, [4], Kind.val (.bool true), true⟩ :: ⟨6, 54, [5], Kind.val (.int .u64 ((0 : Nat) : Int)), true⟩ :: ⟨7, 55, [5, 6], Kind.val (.bool true), true⟩ :: ⟨8, 56, [5, 7], Kind.val (.bool true), true⟩ :: ⟨9, 57, [8], Kind.val (.bool true), true⟩ :: ⟨10, 58, [9], Kind.val (.agg #[.int .u64 (wd q 0 : Nat), .int .u64 (wd q 1 : Nat), .int .u64 (wd q 2 : Nat), .int .u64 (wd q 3 : Nat)]), true⟩ :: ⟨11, 59, [9, 10], Kind.val (.agg #[.int .u64 (wd A 0 : Nat), .int .u64 (wd A 1 : Nat), .int .u64 (wd A 2 : Nat), .int .u64 (wd A 3 : Nat)]), true⟩ :: ⟨12, 60, [9, 11], Kind.val (.int .u8 (n : Nat)), true⟩ :: ⟨13, 61, [9, 12], Kind.val (.int .i64 (n : Nat)), true⟩ :: ⟨14, 62, [9, 13], Kind.val (.int .i64 (-(n : Int))), true⟩ :: ⟨15, 63, [9, 11, 14], Kind.val (.agg #[.int .u64 (wd q 0 : Nat), .int .u64 (wd q 1 : Nat), .int .u64 (wd q 2 : Nat), .int .u64 (wd q 3 : Nat)]), false⟩ :: ⟨16, 64, [9, 10, 15], Kind.val (.bool true), true⟩ :: ⟨17, 65, [9, 16], Kind.val (.bool true), true⟩ :: ⟨18, 66, [17], Kind.val (.bool true), true⟩ :: ⟨19, 67, [18], Kind.val (.agg #[.int .u64 (wd r 0 : Nat), .int .u64 (wd r 1 : Nat), .int .u64 (wd r 2 : Nat), .int .u64 (wd r 3 : Nat)]), true⟩ :: ⟨20, 68, [18, 19], Kind.val (.agg #[.int .u64 (wd r 0 : Nat), .int .u64 (wd r 1 : Nat), .int .u64 (wd r 2 : Nat), .int .u64 (wd r 3 : Nat)]), true⟩ :: ⟨21, 69, [18, 19, 20], Kind.val (.bool true), true⟩ :: ⟨22, 70, [18, 21], Kind.val (.bool true), true⟩ :: ⟨23, 71, [22], Kind.val (.bool true), true⟩ :: ⟨24, 72, [23], Kind.val (.agg #[.int .u64 (wd r 0 : Nat), .int .u64 (wd r 1 : Nat), .int .u64 (wd r 2 : Nat), .int .u64 (wd r 3 : Nat)]), true⟩ :: ⟨26, 74, [23, 24], Kind.val (.int .u8 (n : Nat)), true⟩ :: ⟨27, 75, [23, 25], Kind.val (.int .i64 (n : Nat)), true⟩ :: ⟨25, 73, [23, 24, 26], Kind.val (.int .i64 (bl : Nat)), false⟩ :: ⟨28, 76, [23, 26, 27], Kind.val (.bool true), true⟩ :: ⟨29, 77, [23, 28], Kind.val (.bool true), true⟩ :: ⟨30, 78, [29], Kind.val (.bool true), true⟩ :: ⟨31, 79, [30], Kind.val (.agg #[.int .u64 (wd G 0 : Nat), .int .u64 (wd G 1 : Nat), .int .u64 (wd G 2 : Nat), .int .u64 (wd G 3 : Nat)]), true⟩ :: ⟨33, 81, [30, 31], Kind.val (.int .i64 (k : Nat)), true⟩ :: ⟨32, 80, [30, 32], Kind.val (.agg #[.int .u64 (wd I 0 : Nat), .int .u64 (wd I 1 : Nat), .int .u64 (wd I 2 : Nat), .int .u64 (wd I 3 : Nat)]), false⟩ :: ⟨34, 82, [30, 32, 33], Kind.val (.agg #[.int .u64 (wd G 0 : Nat), .int .u64 (wd G 1 : Nat), .int .u64 (wd G 2 : Nat), .int .u64 (wd G 3 : Nat)]), false⟩ :: ⟨35, 83, [30, 31, 34], Kind.val (.bool true), true⟩ :: ⟨36, 84, [30, 35], Kind.val (.bool true), true⟩ :: []) _ _ v10 _ ?_ ?_ ?_ ?_ ?_ ?_ ?_ ?_ ?_ ?_ ?_
        · rfl
        · kernel_rfl
        · exact of_decide_eq_true (by kernel_rfl)
        · exact all_cons ⟨_, by rfl, by rfl⟩ (all_cons ⟨_, by rfl, by rfl⟩ (all_cons ⟨_, by rfl, by rfl⟩ (all_cons ⟨_, by rfl, by rfl⟩ (all_cons ⟨_, by rfl, by rfl⟩ (all_cons ⟨_, by rfl, by rfl⟩ (all_cons ⟨_, by rfl, by rfl⟩ (all_cons ⟨_, by rfl, by rfl⟩ (all_cons ⟨_, by rfl, by rfl⟩ (all_cons ⟨_, by rfl, by rfl⟩ (all_cons ⟨_, by rfl, by rfl⟩ (all_cons ⟨_, by rfl, by rfl⟩ (all_cons ⟨_, by rfl, by rfl⟩ (all_cons ⟨_, by rfl, by rfl⟩ (all_cons ⟨_, by rfl, by rfl⟩ (all_cons ⟨_, by rfl, by rfl⟩ (all_cons ⟨_, by rfl, by rfl⟩ (all_cons ⟨_, by rfl, by rfl⟩ (all_cons ⟨_, by rfl, by rfl⟩ (all_cons ⟨_, by rfl, by rfl⟩ (all_cons ⟨_, by rfl, by rfl⟩ (all_cons ⟨_, by rfl, by rfl⟩ (all_cons ⟨_, by rfl, by rfl⟩ (all_cons ⟨_, by rfl, by rfl⟩ (all_cons ⟨_, by rfl, by rfl⟩ (all_cons ⟨_, by rfl, by rfl⟩ (all_cons ⟨_, by rfl, by rfl⟩ (all_cons ⟨_, by rfl, by rfl⟩ (all_cons ⟨_, by rfl, by rfl⟩ (all_cons ⟨_, by rfl, by rfl⟩ (all_cons ⟨_, by rfl, by rfl⟩ (all_cons ⟨_, by rfl, by rfl⟩ (all_cons ⟨_, by rfl, by rfl⟩ (all_cons ⟨_, by rfl, by rfl⟩ (all_cons ⟨_, by rfl, by rfl⟩ (all_cons ⟨_, by rfl, by rfl⟩ (all_cons ⟨_, by rfl, by rfl⟩ (all_nil)))))))))))))))))))))))))))))))))))))
        · exact fun _ hb => ⟨Fq.out.on hb, Fa.out.on hb, Fr.out.on hb, Fleft.out.on hb, Fg.out.on hb⟩
        · exact (Below.refl _ _).drew
        · kernel_rfl
        · exact fun _ _ _ _ _ h => h
        · refine all_cons ?_ (all_cons ?_ (all_cons ?_ (all_cons ?_ (all_cons ?_ (all_cons ?_ (all_cons ?_ (all_cons ?_ (all_cons ?_ (all_cons ?_ (all_cons ?_ (all_cons ?_ (all_cons ?_ (all_cons ?_ (all_cons ?_ (all_cons ?_ (all_cons ?_ (all_cons ?_ (all_cons ?_ (all_cons ?_ (all_cons ?_ (all_cons ?_ (all_cons ?_ (all_cons ?_ (all_cons ?_ (all_cons ?_ (all_cons ?_ (all_cons ?_ (all_cons ?_ (all_cons ?_ (all_cons ?_ (all_cons ?_ (all_cons ?_ (all_cons ?_ (all_cons ?_ (all_cons ?_ (all_cons ?_ (all_nil)))))))))))))))))))))))))))))))))))))
          · exact core_pureAs _ (by rfl)
          · exact coreG_move _ _ _ _ _ _ _ (by rfl) (by rfl) (wants_none) (known_core 0 48 _ _ (of_decide_eq_true (by rfl)) (by rfl) (by rfl) (by rfl))
          · exact coreG_move _ _ _ _ _ _ _ (by rfl) (by rfl) (wants_core 1 49 1 _ _ _ (by rfl) (by rfl) (by rfl) (known_core 1 49 _ _ (of_decide_eq_true (by rfl)) (by rfl) (by rfl) (by rfl)) _ (by rfl)) (known_old 8 _ (of_decide_eq_true (by rfl)) (by rfl))
          · exact coreG_bin _ _ _ _ _ _ _ _ _ _ _ _ _ (by rfl) (by rfl) (wants_core 1 49 1 _ _ _ (by rfl) (by rfl) (by rfl) (known_core 1 49 _ _ (of_decide_eq_true (by rfl)) (by rfl) (by rfl) (by rfl)) _ (by rfl)) (known_core 2 50 _ _ (of_decide_eq_true (by rfl)) (by rfl) (by rfl) (by rfl)) (known_const _) ((fun ρ w hx hy => by simp only [execOp, hx, hy]; simp [go_sem]))
          · exact coreG_pick _ _ _ _ _ _ _ _ _ _ _ _ (by rfl) (by rfl) (wants_none) (known_core 1 49 _ _ (of_decide_eq_true (by rfl)) (by rfl) (by rfl) (by rfl)) (known_core 3 51 _ _ (of_decide_eq_true (by rfl)) (by rfl) (by rfl) (by rfl)) (known_const _) (by rfl)
          · exact coreG_move _ _ _ _ _ _ _ (by rfl) (by rfl) (wants_none) (known_core 4 52 _ _ (of_decide_eq_true (by rfl)) (by rfl) (by rfl) (by rfl))
          · exact coreG_move _ _ _ _ _ _ _ (by rfl) (by rfl) (wants_core 5 53 5 _ _ _ (by rfl) (by rfl) (by rfl) (known_core 5 53 _ _ (of_decide_eq_true (by rfl)) (by rfl) (by rfl) (by rfl)) _ (by rfl)) (known_old 10 _ (of_decide_eq_true (by rfl)) (by rfl))
          · exact coreG_bin _ _ _ _ _ _ _ _ _ _ _ _ _ (by rfl) (by rfl) (wants_core 5 53 5 _ _ _ (by rfl) (by rfl) (by rfl) (known_core 5 53 _ _ (of_decide_eq_true (by rfl)) (by rfl) (by rfl) (by rfl)) _ (by rfl)) (known_core 6 54 _ _ (of_decide_eq_true (by rfl)) (by rfl) (by rfl) (by rfl)) (known_const _) ((fun ρ w hx hy => by simp only [execOp, hx, hy]; simp [go_sem]))
          · exact coreG_pick _ _ _ _ _ _ _ _ _ _ _ _ (by rfl) (by rfl) (wants_none) (known_core 5 53 _ _ (of_decide_eq_true (by rfl)) (by rfl) (by rfl) (by rfl)) (known_core 7 55 _ _ (of_decide_eq_true (by rfl)) (by rfl) (by rfl) (by rfl)) (known_const _) (by rfl)
          · exact coreG_move _ _ _ _ _ _ _ (by rfl) (by rfl) (wants_none) (known_core 8 56 _ _ (of_decide_eq_true (by rfl)) (by rfl) (by rfl) (by rfl))
          · exact coreG_loadP _ _ _ _ _ _ gq _ _ _ _ (by rfl) (by rfl) (wants_core 9 57 9 _ _ _ (by rfl) (by rfl) (by rfl) (known_core 9 57 _ _ (of_decide_eq_true (by rfl)) (by rfl) (by rfl) (by rfl)) _ (by rfl)) (known_old 6 _ (of_decide_eq_true (by rfl)) (by rfl)) (fun _ hs => hs.1)
          · exact coreG_loadP _ _ _ _ _ _ ga _ _ _ _ (by rfl) (by rfl) (wants_core 9 57 9 _ _ _ (by rfl) (by rfl) (by rfl) (known_core 9 57 _ _ (of_decide_eq_true (by rfl)) (by rfl) (by rfl) (by rfl)) _ (by rfl)) (known_old 2 _ (of_decide_eq_true (by rfl)) (by rfl)) (fun _ hs => hs.2.1)
          · exact coreG_move _ _ _ _ _ _ _ (by rfl) (by rfl) (wants_core 9 57 9 _ _ _ (by rfl) (by rfl) (by rfl) (known_core 9 57 _ _ (of_decide_eq_true (by rfl)) (by rfl) (by rfl) (by rfl)) _ (by rfl)) (known_old 1 _ (of_decide_eq_true (by rfl)) (by rfl))
          · exact coreG_conv _ _ _ _ _ _ _ _ _ _ (by rfl) (by rfl) (wants_core 9 57 9 _ _ _ (by rfl) (by rfl) (by rfl) (known_core 9 57 _ _ (of_decide_eq_true (by rfl)) (by rfl) (by rfl) (by rfl)) _ (by rfl)) (known_core 12 60 _ _ (of_decide_eq_true (by rfl)) (by rfl) (by rfl) (by rfl)) (fun ρ w hx => by simp only [execOp, hx]; simp [go_sem]; try (rw [IntKind.wrap_i64]; omega))
          · exact coreG_un _ _ _ _ _ _ _ _ _ _ (by rfl) (by rfl) (wants_core 9 57 9 _ _ _ (by rfl) (by rfl) (by rfl) (known_core 9 57 _ _ (of_decide_eq_true (by rfl)) (by rfl) (by rfl) (by rfl)) _ (by rfl)) (known_core 13 61 _ _ (of_decide_eq_true (by rfl)) (by rfl) (by rfl) (by rfl)) (fun ρ w hx => by simp only [execOp, hx]; simp [go_sem]; try (rw [IntKind.wrap_i64]; omega))
          · exact core_pureAs _ (by rfl)
          · exact coreG_bin _ _ _ _ _ _ _ _ _ _ _ _ _ (by rfl) (by rfl) (wants_core 9 57 9 _ _ _ (by rfl) (by rfl) (by rfl) (known_core 9 57 _ _ (of_decide_eq_true (by rfl)) (by rfl) (by rfl) (by rfl)) _ (by rfl)) (known_core 10 58 _ _ (of_decide_eq_true (by rfl)) (by rfl) (by rfl) (by rfl)) (known_core 15 63 _ _ (of_decide_eq_true (by rfl)) (by rfl) (by rfl) (by rfl)) (eql_run true _ _ _ _ _ _ _ _ _ _ _ _ _ _ _ (eqY q))
          · exact coreG_pick _ _ _ _ _ _ _ _ _ _ _ _ (by rfl) (by rfl) (wants_none) (known_core 9 57 _ _ (of_decide_eq_true (by rfl)) (by rfl) (by rfl) (by rfl)) (known_core 16 64 _ _ (of_decide_eq_true (by rfl)) (by rfl) (by rfl) (by rfl)) (known_const _) (by rfl)
          · exact coreG_move _ _ _ _ _ _ _ (by rfl) (by rfl) (wants_none) (known_core 17 65 _ _ (of_decide_eq_true (by rfl)) (by rfl) (by rfl) (by rfl))
          · exact coreG_loadP _ _ _ _ _ _ gr _ _ _ _ (by rfl) (by rfl) (wants_core 18 66 18 _ _ _ (by rfl) (by rfl) (by rfl) (known_core 18 66 _ _ (of_decide_eq_true (by rfl)) (by rfl) (by rfl) (by rfl)) _ (by rfl)) (known_old 7 _ (of_decide_eq_true (by rfl)) (by rfl)) (fun _ hs => hs.2.2.1)
          · exact coreG_loadP _ _ _ _ _ _ gleft _ _ _ _ (by rfl) (by rfl) (wants_core 18 66 18 _ _ _ (by rfl) (by rfl) (by rfl) (known_core 18 66 _ _ (of_decide_eq_true (by rfl)) (by rfl) (by rfl) (by rfl)) _ (by rfl)) (known_old 9 _ (of_decide_eq_true (by rfl)) (by rfl)) (fun _ hs => hs.2.2.2.1)
          · exact coreG_bin _ _ _ _ _ _ _ _ _ _ _ _ _ (by rfl) (by rfl) (wants_core 18 66 18 _ _ _ (by rfl) (by rfl) (by rfl) (known_core 18 66 _ _ (of_decide_eq_true (by rfl)) (by rfl) (by rfl) (by rfl)) _ (by rfl)) (known_core 19 67 _ _ (of_decide_eq_true (by rfl)) (by rfl) (by rfl) (by rfl)) (known_core 20 68 _ _ (of_decide_eq_true (by rfl)) (by rfl) (by rfl) (by rfl)) (eql_run true _ _ _ _ _ _ _ _ _ _ _ _ _ _ _ (eqY r))
          · exact coreG_pick _ _ _ _ _ _ _ _ _ _ _ _ (by rfl) (by rfl) (wants_none) (known_core 18 66 _ _ (of_decide_eq_true (by rfl)) (by rfl) (by rfl) (by rfl)) (known_core 21 69 _ _ (of_decide_eq_true (by rfl)) (by rfl) (by rfl) (by rfl)) (known_const _) (by rfl)
          · exact coreG_move _ _ _ _ _ _ _ (by rfl) (by rfl) (wants_none) (known_core 22 70 _ _ (of_decide_eq_true (by rfl)) (by rfl) (by rfl) (by rfl))
          · exact coreG_loadP _ _ _ _ _ _ gr _ _ _ _ (by rfl) (by rfl) (wants_core 23 71 23 _ _ _ (by rfl) (by rfl) (by rfl) (known_core 23 71 _ _ (of_decide_eq_true (by rfl)) (by rfl) (by rfl) (by rfl)) _ (by rfl)) (known_old 7 _ (of_decide_eq_true (by rfl)) (by rfl)) (fun _ hs => hs.2.2.1)
          · exact coreG_move _ _ _ _ _ _ _ (by rfl) (by rfl) (wants_core 23 71 23 _ _ _ (by rfl) (by rfl) (by rfl) (known_core 23 71 _ _ (of_decide_eq_true (by rfl)) (by rfl) (by rfl) (by rfl)) _ (by rfl)) (known_old 1 _ (of_decide_eq_true (by rfl)) (by rfl))
          · exact coreG_conv _ _ _ _ _ _ _ _ _ _ (by rfl) (by rfl) (wants_core 23 71 23 _ _ _ (by rfl) (by rfl) (by rfl) (known_core 23 71 _ _ (of_decide_eq_true (by rfl)) (by rfl) (by rfl) (by rfl)) _ (by rfl)) (known_core 25 74 _ _ (of_decide_eq_true (by rfl)) (by rfl) (by rfl) (by rfl)) (fun ρ w hx => by simp only [execOp, hx]; simp [go_sem]; try (rw [IntKind.wrap_i64]; omega))
          · exact core_pureAs _ (by rfl)
          · exact coreG_bin _ _ _ _ _ _ _ _ _ _ _ _ _ (by rfl) (by rfl) (wants_core 23 71 23 _ _ _ (by rfl) (by rfl) (by rfl) (known_core 23 71 _ _ (of_decide_eq_true (by rfl)) (by rfl) (by rfl) (by rfl)) _ (by rfl)) (known_core 27 73 _ _ (of_decide_eq_true (by rfl)) (by rfl) (by rfl) (by rfl)) (known_core 26 75 _ _ (of_decide_eq_true (by rfl)) (by rfl) (by rfl) (by rfl)) ((fun ρ w hx hy => by simp only [execOp, hx, hy]; simp [go_sem]; omega))
          · exact coreG_pick _ _ _ _ _ _ _ _ _ _ _ _ (by rfl) (by rfl) (wants_none) (known_core 23 71 _ _ (of_decide_eq_true (by rfl)) (by rfl) (by rfl) (by rfl)) (known_core 28 76 _ _ (of_decide_eq_true (by rfl)) (by rfl) (by rfl) (by rfl)) (known_const _) (by rfl)
          · exact coreG_move _ _ _ _ _ _ _ (by rfl) (by rfl) (wants_none) (known_core 29 77 _ _ (of_decide_eq_true (by rfl)) (by rfl) (by rfl) (by rfl))
          · exact coreG_loadP _ _ _ _ _ _ gg _ _ _ _ (by rfl) (by rfl) (wants_core 30 78 30 _ _ _ (by rfl) (by rfl) (by rfl) (known_core 30 78 _ _ (of_decide_eq_true (by rfl)) (by rfl) (by rfl) (by rfl)) _ (by rfl)) (known_old 11 _ (of_decide_eq_true (by rfl)) (by rfl)) (fun _ hs => hs.2.2.2.2)
          · exact coreG_move _ _ _ _ _ _ _ (by rfl) (by rfl) (wants_core 30 78 30 _ _ _ (by rfl) (by rfl) (by rfl) (known_core 30 78 _ _ (of_decide_eq_true (by rfl)) (by rfl) (by rfl) (by rfl)) _ (by rfl)) (known_old 12 _ (of_decide_eq_true (by rfl)) (by rfl))
          · exact core_pureAs _ (by rfl)
          · exact core_pureAs _ (by rfl)
          · exact coreG_bin _ _ _ _ _ _ _ _ _ _ _ _ _ (by rfl) (by rfl) (wants_core 30 78 30 _ _ _ (by rfl) (by rfl) (by rfl) (known_core 30 78 _ _ (of_decide_eq_true (by rfl)) (by rfl) (by rfl) (by rfl)) _ (by rfl)) (known_core 31 79 _ _ (of_decide_eq_true (by rfl)) (by rfl) (by rfl) (by rfl)) (known_core 34 82 _ _ (of_decide_eq_true (by rfl)) (by rfl) (by rfl) (by rfl)) (eql_run true _ _ _ _ _ _ _ _ _ _ _ _ _ _ _ (eqY G))
          · exact coreG_pick _ _ _ _ _ _ _ _ _ _ _ _ (by rfl) (by rfl) (wants_none) (known_core 30 78 _ _ (of_decide_eq_true (by rfl)) (by rfl) (by rfl) (by rfl)) (known_core 35 83 _ _ (of_decide_eq_true (by rfl)) (by rfl) (by rfl) (by rfl)) (known_const _) (by rfl)
        · refine all_cons ?_ (all_cons ?_ (all_cons ?_ (all_cons ?_ (all_cons ?_ (all_cons ?_ (all_cons ?_ (all_cons ?_ (all_cons ?_ (all_cons ?_ (all_cons ?_ (all_cons ?_ (all_cons ?_ (all_cons ?_ (all_cons ?_ (all_cons ?_ (all_cons ?_ (all_cons ?_ (all_cons ?_ (all_cons ?_ (all_cons ?_ (all_cons ?_ (all_cons ?_ (all_cons ?_ (all_cons ?_ (all_cons ?_ (all_cons ?_ (all_cons ?_ (all_cons ?_ (all_cons ?_ (all_cons ?_ (all_cons ?_ (all_cons ?_ (all_cons ?_ (all_cons ?_ (all_cons ?_ (all_cons ?_ (all_nil)))))))))))))))))))))))))))))))))))))
          · exact fun _ => coreG_call _ 37 _ _ [] _ _ _ _ _ _ _ (by rfl) Try.func37 (by kernel_rfl) (by rfl) (by rfl) (wants_none) .nil (alive3_any)
          · exact core_stepAs _ (by rfl)
          · exact core_stepAs _ (by rfl)
          · exact core_stepAs _ (by rfl)
          · exact core_stepAs _ (by rfl)
          · exact core_stepAs _ (by rfl)
          · exact core_stepAs _ (by rfl)
          · exact core_stepAs _ (by rfl)
          · exact core_stepAs _ (by rfl)
          · exact core_stepAs _ (by rfl)
          · exact core_stepAs _ (by rfl)
          · exact core_stepAs _ (by rfl)
          · exact core_stepAs _ (by rfl)
          · exact core_stepAs _ (by rfl)
          · exact core_stepAs _ (by rfl)
          · exact fun _ => coreG_call _ 27 _ _ [.tmp 59, .tmp 62] _ _ _ _ _ _ _ (by rfl) Try.func27 (by kernel_rfl) (by rfl) (by rfl) (wants_core 9 57 9 _ _ _ (by rfl) (by rfl) (by rfl) (known_core 9 57 _ _ (of_decide_eq_true (by rfl)) (by rfl) (by rfl) (by rfl)) _ (by rfl)) (.cons (known_core 11 59 _ _ (of_decide_eq_true (by rfl)) (by rfl) (by rfl) (by rfl)) (.cons (known_core 14 62 _ _ (of_decide_eq_true (by rfl)) (by rfl) (by rfl) (by rfl)) .nil)) (HS3.out)
          · exact core_stepAs _ (by rfl)
          · exact core_stepAs _ (by rfl)
          · exact core_stepAs _ (by rfl)
          · exact core_stepAs _ (by rfl)
          · exact core_stepAs _ (by rfl)
          · exact core_stepAs _ (by rfl)
          · exact core_stepAs _ (by rfl)
          · exact core_stepAs _ (by rfl)
          · exact core_stepAs _ (by rfl)
          · exact core_stepAs _ (by rfl)
          · exact core_stepAs _ (by rfl)
          · exact fun _ => coreG_call _ 23 _ _ [.tmp 72] _ _ _ _ _ _ _ (by rfl) Try.func23 (by kernel_rfl) (by rfl) (by rfl) (wants_core 23 71 23 _ _ _ (by rfl) (by rfl) (by rfl) (known_core 23 71 _ _ (of_decide_eq_true (by rfl)) (by rfl) (by rfl) (by rfl)) _ (by rfl)) (.cons (known_core 24 72 _ _ (of_decide_eq_true (by rfl)) (by rfl) (by rfl) (by rfl)) .nil) (HBL.out)
          · exact core_stepAs _ (by rfl)
          · exact core_stepAs _ (by rfl)
          · exact core_stepAs _ (by rfl)
          · exact core_stepAs _ (by rfl)
          · exact core_stepAs _ (by rfl)
          · exact fun _ => coreG_call _ 36 _ _ [.const (.int .u64 1)] _ _ _ _ _ _ _ (by rfl) Try.func36 (by kernel_rfl) (by rfl) (by rfl) (wants_core 30 78 30 _ _ _ (by rfl) (by rfl) (by rfl) (known_core 30 78 _ _ (of_decide_eq_true (by rfl)) (by rfl) (by rfl) (by rfl)) _ (by rfl)) (.cons (known_const _) .nil) (HOI.out)
          · exact fun _ => coreG_call _ 27 _ _ [.tmp 80, .tmp 81] _ _ _ _ _ _ _ (by rfl) Try.func27 (by kernel_rfl) (by rfl) (by rfl) (wants_core 30 78 30 _ _ _ (by rfl) (by rfl) (by rfl) (known_core 30 78 _ _ (of_decide_eq_true (by rfl)) (by rfl) (by rfl) (by rfl)) _ (by rfl)) (.cons (known_core 33 80 _ _ (of_decide_eq_true (by rfl)) (by rfl) (by rfl) (by rfl)) (.cons (known_core 32 81 _ _ (of_decide_eq_true (by rfl)) (by rfl) (by rfl) (by rfl)) .nil)) (HS4.out)
          · exact core_stepAs _ (by rfl)
          · exact core_stepAs _ (by rfl)
        intro vs y11 hc
        have BZ := bel_tr BW.out hc.bel
        refine assign_one (i := 37) (.tmp 84) 4 _ _ _ (.bool true) (by kernel_rfl) (by rfl) (hc.at_ (of_decide_eq_true (by kernel_rfl)) (by rfl) 36 84 _ (.bool true) (by rfl) (by rfl) (by rfl)) (⟨Fq.out.on hc.bel, Fa.out.on hc.bel, Fr.out.on hc.bel, Fleft.out.on hc.bel, Fg.out.on hc.bel⟩) ?_
        refine wpAnyH_done (by kernel_rfl) ?_ _
        refine NoPanic.normal ?_
        generalize hA : Act.put (over _ _ vs) (some 4) (.bool true) = A
        have hA0 : A.tmps.getD 4 undef = .bool true := by rw [← hA]; exact put_at _ _ _ (by rw [over_size]; exact Nat.le_of_ble_eq_true rfl)
        have hAd : A.defers = [] := by rw [← hA, put_defers, over_defers]
        clear hA hc
        go_wp2_with fail
        refine bodyPost_ret (v := .bool true) (by simp [results, Try.results12, go_sem] at hA0 ⊢; simp [hA0]) hAd ⟨rfl, BZ⟩
      · have hkn2 : ¬ k < n := hkn
        have hd : decide ((k : Int) < (n : Int)) = false := by simp; omega
        have La := Fa.out.lt
        have ca0 : wr.cell? ⟨ga, 0, none⟩ = some (.int .u64 (wd A 0 : Nat)) := Fa.out.cell 0
        have ca1 : wr.cell? ⟨ga, 1, none⟩ = some (.int .u64 (wd A 1 : Nat)) := Fa.out.cell 1
        have ca2 : wr.cell? ⟨ga, 2, none⟩ = some (.int .u64 (wd A 2 : Nat)) := Fa.out.cell 2
        have ca3 : wr.cell? ⟨ga, 3, none⟩ = some (.int .u64 (wd A 3 : Nat)) := Fa.out.cell 3
        go_wp2_with fail
        clear La ca0 ca1 ca2 ca3
        try simp only [List.append_eq, List.cons_append, List.nil_append]
        refine wp_region_noPanic ?_
        refine wp_region_held_drew (S := fun w' => At w' gq 24 #[.int .u64 (wd q 0 : Nat), .int .u64 (wd q 1 : Nat), .int .u64 (wd q 2 : Nat), .int .u64 (wd q 3 : Nat)] ∧ At w' ga 24 #[.int .u64 (wd A 0 : Nat), .int .u64 (wd A 1 : Nat), .int .u64 (wd A 2 : Nat), .int .u64 (wd A 3 : Nat)] ∧ At w' gr 24 #[.int .u64 (wd r 0 : Nat), .int .u64 (wd r 1 : Nat), .int .u64 (wd r 2 : Nat), .int .u64 (wd r 3 : Nat)] ∧ At w' gleft 24 #[.int .u64 (wd r 0 : Nat), .int .u64 (wd r 1 : Nat), .int .u64 (wd r 2 : Nat), .int .u64 (wd r 3 : Nat)] ∧ At w' gg 24 #[.int .u64 (wd G 0 : Nat), .int .u64 (wd G 1 : Nat), .int .u64 (wd G 2 : Nat), .int .u64 (wd G 3 : Nat)]) (by kernel_rfl) (⟨Fq.out.drew, Fa.out.drew, Fr.out.drew, Fleft.out.drew, Fg.out.drew⟩) (fun _ => ?_)
        refine wpAnyH_cores (fuel := 1) (⟨0, 48, [], Kind.val (.bool true), false⟩ :: ⟨1, 49, [0], Kind.val (.bool true), true⟩ :: ⟨2, 50, [1], Kind.val (.int .i64 0), true⟩ :: ⟨3, 51, [1, 2], Kind.val (.bool true), true⟩ :: ⟨4, 52, [1, 3], Kind.val (.bool true), true⟩ :: ⟨5, 53, [4], Kind.val (.bool true), true⟩ :: ⟨6, 54, [5], Kind.val (.int .u64 ((0 : Nat) : Int)), true⟩ :: ⟨7, 55, [5, 6], Kind.val (.bool true), true⟩ :: ⟨8, 56, [5, 7], Kind.val (.bool true), true⟩ :: ⟨9, 57, [8], Kind.val (.bool true), true⟩ :: ⟨10, 58, [9], Kind.val (.agg #[.int .u64 (wd q 0 : Nat), .int .u64 (wd q 1 : Nat), .int .u64 (wd q 2 : Nat), .int .u64 (wd q 3 : Nat)]), true⟩ :: ⟨11, 59, [9, 10], Kind.val (.agg #[.int .u64 (wd A 0 : Nat), .int .u64 (wd A 1 : Nat), .int .u64 (wd A 2 : Nat), .int .u64 (wd A 3 : Nat)]), true⟩ :: ⟨12, 60, [9, 11], Kind.val (.int .u8 (n : Nat)), true⟩ :: ⟨13, 61, [9, 12], Kind.val (.int .i64 (n : Nat)), true⟩ :: ⟨14, 62, [9, 13], Kind.val (.int .i64 (-(n : Int))), true⟩ :: ⟨15, 63, [9, 11, 14], Kind.val (.agg #[.int .u64 (wd q 0 : Nat), .int .u64 (wd q 1 : Nat), .int .u64 (wd q 2 : Nat), .int .u64 (wd q 3 : Nat)]), false⟩ :: ⟨16, 64, [9, 10, 15], Kind.val (.bool true), true⟩ :: ⟨17, 65, [9, 16], Kind.val (.bool true), true⟩ :: ⟨18, 66, [17], Kind.val (.bool true), true⟩ :: ⟨19, 67, [18], Kind.val (.agg #[.int .u64 (wd r 0 : Nat), .int .u64 (wd r 1 : Nat), .int .u64 (wd r 2 : Nat), .int .u64 (wd r 3 : Nat)]), true⟩ :: ⟨20, 68, [18, 19], Kind.val (.agg #[.int .u64 (wd r 0 : Nat), .int .u64 (wd r 1 : Nat), .int .u64 (wd r 2 : Nat), .int .u64 (wd r 3 : Nat)]), true⟩ :: ⟨21, 69, [18, 19, 20], Kind.val (.bool true), true⟩ :: ⟨22, 70, [18, 21], Kind.val (.bool true), true⟩ :: ⟨23, 71, [22], Kind.val (.bool true), true⟩ :: ⟨24, 72, [23], Kind.val (.agg #[.int .u64 (wd r 0 : Nat), .int .u64 (wd r 1 : Nat), .int .u64 (wd r 2 : Nat), .int .u64 (wd r 3 : Nat)]), true⟩ :: ⟨26, 74, [23, 24], Kind.val (.int .u8 (n : Nat)), true⟩ :: ⟨27, 75, [23, 25], Kind.val (.int .i64 (n : Nat)), true⟩ :: ⟨25, 73, [23, 24, 26], Kind.val (.int .i64 (bl : Nat)), false⟩ :: ⟨28, 76, [23, 26, 27], Kind.val (.bool true), true⟩ :: ⟨29, 77, [23, 28], Kind.val (.bool true), true⟩ :: ⟨30, 78, [29], Kind.val (.bool true), true⟩ :: ⟨31, 79, [30], Kind.val (.agg #[.int .u64 (wd G 0 : Nat), .int .u64 (wd G 1 : Nat), .int .u64 (wd G 2 : Nat), .int .u64 (wd G 3 : Nat)]), true⟩ :: ⟨33, 81, [30, 31], Kind.val (.int .i64 (k : Nat)), true⟩ :: ⟨32, 80, [30, 32], Kind.val (.agg #[.int .u64 (wd I 0 : Nat), .int .u64 (wd I 1 : Nat), .int .u64 (wd I 2 : Nat), .int .u64 (wd I 3 : Nat)]), false⟩ :: ⟨34, 82, [30, 32, 33], Kind.val (.agg #[.int .u64 (wd G 0 : Nat), .int .u64 (wd G 1 : Nat), .int .u64 (wd G 2 : Nat), .int .u64 (wd G 3 : Nat)]), false⟩ :: ⟨35, 83, [30, 31, 34], Kind.val (.bool true), true⟩ :: ⟨36, 84, [30, 35], Kind.val (.bool true), true⟩ :: []) _ _ wr _ ?_ ?_ ?_ ?_ ?_ ?_ ?_ ?_ ?_ ?_ ?_
        · rfl
        · kernel_rfl
        · exact of_decide_eq_true (by kernel_rfl)
        · exact all_cons ⟨_, by rfl, by rfl⟩ (all_cons ⟨_, by rfl, by rfl⟩ (all_cons ⟨_, by rfl, by rfl⟩ (all_cons ⟨_, by rfl, by rfl⟩ (all_cons ⟨_, by rfl, by rfl⟩ (all_cons ⟨_, by rfl, by rfl⟩ (all_cons ⟨_, by rfl, by rfl⟩ (all_cons ⟨_, by rfl, by rfl⟩ (all_cons ⟨_, by rfl, by rfl⟩ (all_cons ⟨_, by rfl, by rfl⟩ (all_cons ⟨_, by rfl, by rfl⟩ (all_cons ⟨_, by rfl, by rfl⟩ (all_cons ⟨_, by rfl, by rfl⟩ (all_cons ⟨_, by rfl, by rfl⟩ (all_cons ⟨_, by rfl, by rfl⟩ (all_cons ⟨_, by rfl, by rfl⟩ (all_cons ⟨_, by rfl, by rfl⟩ (all_cons ⟨_, by rfl, by rfl⟩ (all_cons ⟨_, by rfl, by rfl⟩ (all_cons ⟨_, by rfl, by rfl⟩ (all_cons ⟨_, by rfl, by rfl⟩ (all_cons ⟨_, by rfl, by rfl⟩ (all_cons ⟨_, by rfl, by rfl⟩ (all_cons ⟨_, by rfl, by rfl⟩ (all_cons ⟨_, by rfl, by rfl⟩ (all_cons ⟨_, by rfl, by rfl⟩ (all_cons ⟨_, by rfl, by rfl⟩ (all_cons ⟨_, by rfl, by rfl⟩ (all_cons ⟨_, by rfl, by rfl⟩ (all_cons ⟨_, by rfl, by rfl⟩ (all_cons ⟨_, by rfl, by rfl⟩ (all_cons ⟨_, by rfl, by rfl⟩ (all_cons ⟨_, by rfl, by rfl⟩ (all_cons ⟨_, by rfl, by rfl⟩ (all_cons ⟨_, by rfl, by rfl⟩ (all_cons ⟨_, by rfl, by rfl⟩ (all_cons ⟨_, by rfl, by rfl⟩ (all_nil)))))))))))))))))))))))))))))))))))))
        · exact fun _ hb => ⟨Fq.out.on hb, Fa.out.on hb, Fr.out.on hb, Fleft.out.on hb, Fg.out.on hb⟩
        · exact (Below.refl _ _).drew
        · kernel_rfl
        · exact fun _ _ _ _ _ h => h
        · refine all_cons ?_ (all_cons ?_ (all_cons ?_ (all_cons ?_ (all_cons ?_ (all_cons ?_ (all_cons ?_ (all_cons ?_ (all_cons ?_ (all_cons ?_ (all_cons ?_ (all_cons ?_ (all_cons ?_ (all_cons ?_ (all_cons ?_ (all_cons ?_ (all_cons ?_ (all_cons ?_ (all_cons ?_ (all_cons ?_ (all_cons ?_ (all_cons ?_ (all_cons ?_ (all_cons ?_ (all_cons ?_ (all_cons ?_ (all_cons ?_ (all_cons ?_ (all_cons ?_ (all_cons ?_ (all_cons ?_ (all_cons ?_ (all_cons ?_ (all_cons ?_ (all_cons ?_ (all_cons ?_ (all_cons ?_ (all_nil)))))))))))))))))))))))))))))))))))))
          · exact core_pureAs _ (by rfl)
          · exact coreG_move _ _ _ _ _ _ _ (by rfl) (by rfl) (wants_none) (known_core 0 48 _ _ (of_decide_eq_true (by rfl)) (by rfl) (by rfl) (by rfl))
          · exact coreG_move _ _ _ _ _ _ _ (by rfl) (by rfl) (wants_core 1 49 1 _ _ _ (by rfl) (by rfl) (by rfl) (known_core 1 49 _ _ (of_decide_eq_true (by rfl)) (by rfl) (by rfl) (by rfl)) _ (by rfl)) (known_old 8 _ (of_decide_eq_true (by rfl)) (by rfl))
          · exact coreG_bin _ _ _ _ _ _ _ _ _ _ _ _ _ (by rfl) (by rfl) (wants_core 1 49 1 _ _ _ (by rfl) (by rfl) (by rfl) (known_core 1 49 _ _ (of_decide_eq_true (by rfl)) (by rfl) (by rfl) (by rfl)) _ (by rfl)) (known_core 2 50 _ _ (of_decide_eq_true (by rfl)) (by rfl) (by rfl) (by rfl)) (known_const _) ((fun ρ w hx hy => by simp only [execOp, hx, hy]; simp [go_sem]))
          · exact coreG_pick _ _ _ _ _ _ _ _ _ _ _ _ (by rfl) (by rfl) (wants_none) (known_core 1 49 _ _ (of_decide_eq_true (by rfl)) (by rfl) (by rfl) (by rfl)) (known_core 3 51 _ _ (of_decide_eq_true (by rfl)) (by rfl) (by rfl) (by rfl)) (known_const _) (by rfl)
          · exact coreG_move _ _ _ _ _ _ _ (by rfl) (by rfl) (wants_none) (known_core 4 52 _ _ (of_decide_eq_true (by rfl)) (by rfl) (by rfl) (by rfl))
          · exact coreG_move _ _ _ _ _ _ _ (by rfl) (by rfl) (wants_core 5 53 5 _ _ _ (by rfl) (by rfl) (by rfl) (known_core 5 53 _ _ (of_decide_eq_true (by rfl)) (by rfl) (by rfl) (by rfl)) _ (by rfl)) (known_old 10 _ (of_decide_eq_true (by rfl)) (by rfl))
          · exact coreG_bin _ _ _ _ _ _ _ _ _ _ _ _ _ (by rfl) (by rfl) (wants_core 5 53 5 _ _ _ (by rfl) (by rfl) (by rfl) (known_core 5 53 _ _ (of_decide_eq_true (by rfl)) (by rfl) (by rfl) (by rfl)) _ (by rfl)) (known_core 6 54 _ _ (of_decide_eq_true (by rfl)) (by rfl) (by rfl) (by rfl)) (known_const _) ((fun ρ w hx hy => by simp only [execOp, hx, hy]; simp [go_sem]))
          · exact coreG_pick _ _ _ _ _ _ _ _ _ _ _ _ (by rfl) (by rfl) (wants_none) (known_core 5 53 _ _ (of_decide_eq_true (by rfl)) (by rfl) (by rfl) (by rfl)) (known_core 7 55 _ _ (of_decide_eq_true (by rfl)) (by rfl) (by rfl) (by rfl)) (known_const _) (by rfl)
          · exact coreG_move _ _ _ _ _ _ _ (by rfl) (by rfl) (wants_none) (known_core 8 56 _ _ (of_decide_eq_true (by rfl)) (by rfl) (by rfl) (by rfl))
          · exact coreG_loadP _ _ _ _ _ _ gq _ _ _ _ (by rfl) (by rfl) (wants_core 9 57 9 _ _ _ (by rfl) (by rfl) (by rfl) (known_core 9 57 _ _ (of_decide_eq_true (by rfl)) (by rfl) (by rfl) (by rfl)) _ (by rfl)) (known_old 6 _ (of_decide_eq_true (by rfl)) (by rfl)) (fun _ hs => hs.1)
          · exact coreG_loadP _ _ _ _ _ _ ga _ _ _ _ (by rfl) (by rfl) (wants_core 9 57 9 _ _ _ (by rfl) (by rfl) (by rfl) (known_core 9 57 _ _ (of_decide_eq_true (by rfl)) (by rfl) (by rfl) (by rfl)) _ (by rfl)) (known_old 2 _ (of_decide_eq_true (by rfl)) (by rfl)) (fun _ hs => hs.2.1)
          · exact coreG_move _ _ _ _ _ _ _ (by rfl) (by rfl) (wants_core 9 57 9 _ _ _ (by rfl) (by rfl) (by rfl) (known_core 9 57 _ _ (of_decide_eq_true (by rfl)) (by rfl) (by rfl) (by rfl)) _ (by rfl)) (known_old 1 _ (of_decide_eq_true (by rfl)) (by rfl))
          · exact coreG_conv _ _ _ _ _ _ _ _ _ _ (by rfl) (by rfl) (wants_core 9 57 9 _ _ _ (by rfl) (by rfl) (by rfl) (known_core 9 57 _ _ (of_decide_eq_true (by rfl)) (by rfl) (by rfl) (by rfl)) _ (by rfl)) (known_core 12 60 _ _ (of_decide_eq_true (by rfl)) (by rfl) (by rfl) (by rfl)) (fun ρ w hx => by simp only [execOp, hx]; simp [go_sem]; try (rw [IntKind.wrap_i64]; omega))
          · exact coreG_un _ _ _ _ _ _ _ _ _ _ (by rfl) (by rfl) (wants_core 9 57 9 _ _ _ (by rfl) (by rfl) (by rfl) (known_core 9 57 _ _ (of_decide_eq_true (by rfl)) (by rfl) (by rfl) (by rfl)) _ (by rfl)) (known_core 13 61 _ _ (of_decide_eq_true (by rfl)) (by rfl) (by rfl) (by rfl)) (fun ρ w hx => by simp only [execOp, hx]; simp [go_sem]; try (rw [IntKind.wrap_i64]; omega))
          · exact core_pureAs _ (by rfl)
          · exact coreG_bin _ _ _ _ _ _ _ _ _ _ _ _ _ (by rfl) (by rfl) (wants_core 9 57 9 _ _ _ (by rfl) (by rfl) (by rfl) (known_core 9 57 _ _ (of_decide_eq_true (by rfl)) (by rfl) (by rfl) (by rfl)) _ (by rfl)) (known_core 10 58 _ _ (of_decide_eq_true (by rfl)) (by rfl) (by rfl) (by rfl)) (known_core 15 63 _ _ (of_decide_eq_true (by rfl)) (by rfl) (by rfl) (by rfl)) (eql_run true _ _ _ _ _ _ _ _ _ _ _ _ _ _ _ (eqY q))
          · exact coreG_pick _ _ _ _ _ _ _ _ _ _ _ _ (by rfl) (by rfl) (wants_none) (known_core 9 57 _ _ (of_decide_eq_true (by rfl)) (by rfl) (by rfl) (by rfl)) (known_core 16 64 _ _ (of_decide_eq_true (by rfl)) (by rfl) (by rfl) (by rfl)) (known_const _) (by rfl)
          · exact coreG_move _ _ _ _ _ _ _ (by rfl) (by rfl) (wants_none) (known_core 17 65 _ _ (of_decide_eq_true (by rfl)) (by rfl) (by rfl) (by rfl))
          · exact coreG_loadP _ _ _ _ _ _ gr _ _ _ _ (by rfl) (by rfl) (wants_core 18 66 18 _ _ _ (by rfl) (by rfl) (by rfl) (known_core 18 66 _ _ (of_decide_eq_true (by rfl)) (by rfl) (by rfl) (by rfl)) _ (by rfl)) (known_old 7 _ (of_decide_eq_true (by rfl)) (by rfl)) (fun _ hs => hs.2.2.1)
          · exact coreG_loadP _ _ _ _ _ _ gleft _ _ _ _ (by rfl) (by rfl) (wants_core 18 66 18 _ _ _ (by rfl) (by rfl) (by rfl) (known_core 18 66 _ _ (of_decide_eq_true (by rfl)) (by rfl) (by rfl) (by rfl)) _ (by rfl)) (known_old 9 _ (of_decide_eq_true (by rfl)) (by rfl)) (fun _ hs => hs.2.2.2.1)
          · exact coreG_bin _ _ _ _ _ _ _ _ _ _ _ _ _ (by rfl) (by rfl) (wants_core 18 66 18 _ _ _ (by rfl) (by rfl) (by rfl) (known_core 18 66 _ _ (of_decide_eq_true (by rfl)) (by rfl) (by rfl) (by rfl)) _ (by rfl)) (known_core 19 67 _ _ (of_decide_eq_true (by rfl)) (by rfl) (by rfl) (by rfl)) (known_core 20 68 _ _ (of_decide_eq_true (by rfl)) (by rfl) (by rfl) (by rfl)) (eql_run true _ _ _ _ _ _ _ _ _ _ _ _ _ _ _ (eqY r))
          · exact coreG_pick _ _ _ _ _ _ _ _ _ _ _ _ (by rfl) (by rfl) (wants_none) (known_core 18 66 _ _ (of_decide_eq_true (by rfl)) (by rfl) (by rfl) (by rfl)) (known_core 21 69 _ _ (of_decide_eq_true (by rfl)) (by rfl) (by rfl) (by rfl)) (known_const _) (by rfl)
          · exact coreG_move _ _ _ _ _ _ _ (by rfl) (by rfl) (wants_none) (known_core 22 70 _ _ (of_decide_eq_true (by rfl)) (by rfl) (by rfl) (by rfl))
          · exact coreG_loadP _ _ _ _ _ _ gr _ _ _ _ (by rfl) (by rfl) (wants_core 23 71 23 _ _ _ (by rfl) (by rfl) (by rfl) (known_core 23 71 _ _ (of_decide_eq_true (by rfl)) (by rfl) (by rfl) (by rfl)) _ (by rfl)) (known_old 7 _ (of_decide_eq_true (by rfl)) (by rfl)) (fun _ hs => hs.2.2.1)
          · exact coreG_move _ _ _ _ _ _ _ (by rfl) (by rfl) (wants_core 23 71 23 _ _ _ (by rfl) (by rfl) (by rfl) (known_core 23 71 _ _ (of_decide_eq_true (by rfl)) (by rfl) (by rfl) (by rfl)) _ (by rfl)) (known_old 1 _ (of_decide_eq_true (by rfl)) (by rfl))
          · exact coreG_conv _ _ _ _ _ _ _ _ _ _ (by rfl) (by rfl) (wants_core 23 71 23 _ _ _ (by rfl) (by rfl) (by rfl) (known_core 23 71 _ _ (of_decide_eq_true (by rfl)) (by rfl) (by rfl) (by rfl)) _ (by rfl)) (known_core 25 74 _ _ (of_decide_eq_true (by rfl)) (by rfl) (by rfl) (by rfl)) (fun ρ w hx => by simp only [execOp, hx]; simp [go_sem]; try (rw [IntKind.wrap_i64]; omega))
          · exact core_pureAs _ (by rfl)
          · exact coreG_bin _ _ _ _ _ _ _ _ _ _ _ _ _ (by rfl) (by rfl) (wants_core 23 71 23 _ _ _ (by rfl) (by rfl) (by rfl) (known_core 23 71 _ _ (of_decide_eq_true (by rfl)) (by rfl) (by rfl) (by rfl)) _ (by rfl)) (known_core 27 73 _ _ (of_decide_eq_true (by rfl)) (by rfl) (by rfl) (by rfl)) (known_core 26 75 _ _ (of_decide_eq_true (by rfl)) (by rfl) (by rfl) (by rfl)) ((fun ρ w hx hy => by simp only [execOp, hx, hy]; simp [go_sem]; omega))
          · exact coreG_pick _ _ _ _ _ _ _ _ _ _ _ _ (by rfl) (by rfl) (wants_none) (known_core 23 71 _ _ (of_decide_eq_true (by rfl)) (by rfl) (by rfl) (by rfl)) (known_core 28 76 _ _ (of_decide_eq_true (by rfl)) (by rfl) (by rfl) (by rfl)) (known_const _) (by rfl)
          · exact coreG_move _ _ _ _ _ _ _ (by rfl) (by rfl) (wants_none) (known_core 29 77 _ _ (of_decide_eq_true (by rfl)) (by rfl) (by rfl) (by rfl))
          · exact coreG_loadP _ _ _ _ _ _ gg _ _ _ _ (by rfl) (by rfl) (wants_core 30 78 30 _ _ _ (by rfl) (by rfl) (by rfl) (known_core 30 78 _ _ (of_decide_eq_true (by rfl)) (by rfl) (by rfl) (by rfl)) _ (by rfl)) (known_old 11 _ (of_decide_eq_true (by rfl)) (by rfl)) (fun _ hs => hs.2.2.2.2)
          · exact coreG_move _ _ _ _ _ _ _ (by rfl) (by rfl) (wants_core 30 78 30 _ _ _ (by rfl) (by rfl) (by rfl) (known_core 30 78 _ _ (of_decide_eq_true (by rfl)) (by rfl) (by rfl) (by rfl)) _ (by rfl)) (known_old 12 _ (of_decide_eq_true (by rfl)) (by rfl))
          · exact core_pureAs _ (by rfl)
          · exact core_pureAs _ (by rfl)
          · exact coreG_bin _ _ _ _ _ _ _ _ _ _ _ _ _ (by rfl) (by rfl) (wants_core 30 78 30 _ _ _ (by rfl) (by rfl) (by rfl) (known_core 30 78 _ _ (of_decide_eq_true (by rfl)) (by rfl) (by rfl) (by rfl)) _ (by rfl)) (known_core 31 79 _ _ (of_decide_eq_true (by rfl)) (by rfl) (by rfl) (by rfl)) (known_core 34 82 _ _ (of_decide_eq_true (by rfl)) (by rfl) (by rfl) (by rfl)) (eql_run true _ _ _ _ _ _ _ _ _ _ _ _ _ _ _ (eqY G))
          · exact coreG_pick _ _ _ _ _ _ _ _ _ _ _ _ (by rfl) (by rfl) (wants_none) (known_core 30 78 _ _ (of_decide_eq_true (by rfl)) (by rfl) (by rfl) (by rfl)) (known_core 35 83 _ _ (of_decide_eq_true (by rfl)) (by rfl) (by rfl) (by rfl)) (known_const _) (by rfl)
        · refine all_cons ?_ (all_cons ?_ (all_cons ?_ (all_cons ?_ (all_cons ?_ (all_cons ?_ (all_cons ?_ (all_cons ?_ (all_cons ?_ (all_cons ?_ (all_cons ?_ (all_cons ?_ (all_cons ?_ (all_cons ?_ (all_cons ?_ (all_cons ?_ (all_cons ?_ (all_cons ?_ (all_cons ?_ (all_cons ?_ (all_cons ?_ (all_cons ?_ (all_cons ?_ (all_cons ?_ (all_cons ?_ (all_cons ?_ (all_cons ?_ (all_cons ?_ (all_cons ?_ (all_cons ?_ (all_cons ?_ (all_cons ?_ (all_cons ?_ (all_cons ?_ (all_cons ?_ (all_cons ?_ (all_cons ?_ (all_nil)))))))))))))))))))))))))))))))))))))
          · exact fun _ => coreG_call _ 37 _ _ [] _ _ _ _ _ _ _ (by rfl) Try.func37 (by kernel_rfl) (by rfl) (by rfl) (wants_none) .nil (alive3_any)
          · exact core_stepAs _ (by rfl)
          · exact core_stepAs _ (by rfl)
          · exact core_stepAs _ (by rfl)
          · exact core_stepAs _ (by rfl)
          · exact core_stepAs _ (by rfl)
          · exact core_stepAs _ (by rfl)
          · exact core_stepAs _ (by rfl)
          · exact core_stepAs _ (by rfl)
          · exact core_stepAs _ (by rfl)
          · exact core_stepAs _ (by rfl)
          · exact core_stepAs _ (by rfl)
          · exact core_stepAs _ (by rfl)
          · exact core_stepAs _ (by rfl)
          · exact core_stepAs _ (by rfl)
          · exact fun _ => coreG_call _ 27 _ _ [.tmp 59, .tmp 62] _ _ _ _ _ _ _ (by rfl) Try.func27 (by kernel_rfl) (by rfl) (by rfl) (wants_core 9 57 9 _ _ _ (by rfl) (by rfl) (by rfl) (known_core 9 57 _ _ (of_decide_eq_true (by rfl)) (by rfl) (by rfl) (by rfl)) _ (by rfl)) (.cons (known_core 11 59 _ _ (of_decide_eq_true (by rfl)) (by rfl) (by rfl) (by rfl)) (.cons (known_core 14 62 _ _ (of_decide_eq_true (by rfl)) (by rfl) (by rfl) (by rfl)) .nil)) (HS3.out)
          · exact core_stepAs _ (by rfl)
          · exact core_stepAs _ (by rfl)
          · exact core_stepAs _ (by rfl)
          · exact core_stepAs _ (by rfl)
          · exact core_stepAs _ (by rfl)
          · exact core_stepAs _ (by rfl)
          · exact core_stepAs _ (by rfl)
          · exact core_stepAs _ (by rfl)
          · exact core_stepAs _ (by rfl)
          · exact core_stepAs _ (by rfl)
          · exact core_stepAs _ (by rfl)
          · exact fun _ => coreG_call _ 23 _ _ [.tmp 72] _ _ _ _ _ _ _ (by rfl) Try.func23 (by kernel_rfl) (by rfl) (by rfl) (wants_core 23 71 23 _ _ _ (by rfl) (by rfl) (by rfl) (known_core 23 71 _ _ (of_decide_eq_true (by rfl)) (by rfl) (by rfl) (by rfl)) _ (by rfl)) (.cons (known_core 24 72 _ _ (of_decide_eq_true (by rfl)) (by rfl) (by rfl) (by rfl)) .nil) (HBL.out)
          · exact core_stepAs _ (by rfl)
          · exact core_stepAs _ (by rfl)
          · exact core_stepAs _ (by rfl)
          · exact core_stepAs _ (by rfl)
          · exact core_stepAs _ (by rfl)
          · exact fun _ => coreG_call _ 36 _ _ [.const (.int .u64 1)] _ _ _ _ _ _ _ (by rfl) Try.func36 (by kernel_rfl) (by rfl) (by rfl) (wants_core 30 78 30 _ _ _ (by rfl) (by rfl) (by rfl) (known_core 30 78 _ _ (of_decide_eq_true (by rfl)) (by rfl) (by rfl) (by rfl)) _ (by rfl)) (.cons (known_const _) .nil) (HOI.out)
          · exact fun _ => coreG_call _ 27 _ _ [.tmp 80, .tmp 81] _ _ _ _ _ _ _ (by rfl) Try.func27 (by kernel_rfl) (by rfl) (by rfl) (wants_core 30 78 30 _ _ _ (by rfl) (by rfl) (by rfl) (known_core 30 78 _ _ (of_decide_eq_true (by rfl)) (by rfl) (by rfl) (by rfl)) _ (by rfl)) (.cons (known_core 33 80 _ _ (of_decide_eq_true (by rfl)) (by rfl) (by rfl) (by rfl)) (.cons (known_core 32 81 _ _ (of_decide_eq_true (by rfl)) (by rfl) (by rfl) (by rfl)) .nil)) (HS4.out)
          · exact core_stepAs _ (by rfl)
          · exact core_stepAs _ (by rfl)
        intro vs y10 hc
        have BZ := bel_tr BW.out hc.bel
        refine assign_one (i := 37) (.tmp 84) 4 _ _ _ (.bool true) (by kernel_rfl) (by rfl) (hc.at_ (of_decide_eq_true (by kernel_rfl)) (by rfl) 36 84 _ (.bool true) (by rfl) (by rfl) (by rfl)) (⟨Fq.out.on hc.bel, Fa.out.on hc.bel, Fr.out.on hc.bel, Fleft.out.on hc.bel, Fg.out.on hc.bel⟩) ?_
        refine wpAnyH_done (by kernel_rfl) ?_ _
        refine NoPanic.normal ?_
        generalize hA : Act.put (over _ _ vs) (some 4) (.bool true) = A
        have hA0 : A.tmps.getD 4 undef = .bool true := by rw [← hA]; exact put_at _ _ _ (by rw [over_size]; exact Nat.le_of_ble_eq_true rfl)
        have hAd : A.defers = [] := by rw [← hA, put_defers, over_defers]
        clear hA hc
        go_wp2_with fail
        refine bodyPost_ret (v := .bool true) (by simp [results, Try.results12, go_sem] at hA0 ⊢; simp [hA0]) hAd ⟨rfl, BZ⟩

theorem odd_gcd (m j : Nat) (h : m % 2 = 1) : Nat.gcd m (2 ^ j) = 1 := by
  have h2 : Nat.Coprime m 2 := by
    show Nat.gcd m 2 = 1
    rw [Nat.gcd_comm, Nat.gcd_rec, h]; rfl
  exact h2.pow_right j
theorem low_bits (A : Nat) : ∀ n : Nat, ∃ k : Nat, k ≤ n ∧ (∀ j : Nat, j < k → A / 2 ^ j % 2 = 0) ∧ (k < n → A / 2 ^ k % 2 = 1)
  | 0 => ⟨0, Nat.le_refl _, fun _ h => absurd h (Nat.not_lt_zero _), fun h => absurd h (Nat.not_lt_zero _)⟩
  | n + 1 => by
    obtain ⟨k, h1, h2, h3⟩ := low_bits A n
    by_cases hk : k < n
    · exact ⟨k, by omega, h2, fun _ => h3 hk⟩
    · obtain rfl : k = n := by omega
      by_cases hb : A / 2 ^ k % 2 = 0
      · refine ⟨k + 1, Nat.le_refl _, fun j hj => ?_, fun h => by omega⟩
        by_cases e : j = k
        · rw [e]; exact hb
        · exact h2 j (by omega)
      · exact ⟨k, by omega, h2, fun _ => by omega⟩
theorem low_dvd (A : Nat) : ∀ k : Nat, (∀ j : Nat, j < k → A / 2 ^ j % 2 = 0) → ∃ m, A = 2 ^ k * m
  | 0, _ => ⟨A, by simp⟩
  | k + 1, h => by
    obtain ⟨m, hm⟩ := low_dvd A k fun j hj => h j (by omega)
    have h1 := h k (by omega)
    rw [hm, Nat.mul_div_cancel_left _ (Nat.two_pow_pos k)] at h1
    exact ⟨m / 2, by rw [hm, Nat.pow_succ, Nat.mul_assoc]; congr 1; omega⟩
theorem pow_gcd (A n k : Nat) (hk : k ≤ n) (h0 : ∀ j : Nat, j < k → A / 2 ^ j % 2 = 0) (h1 : k < n → A / 2 ^ k % 2 = 1) : Nat.gcd A (2 ^ n) = 2 ^ k := by
  obtain ⟨m, hm⟩ := low_dvd A k h0
  have e : (2 : Nat) ^ n = 2 ^ k * 2 ^ (n - k) := by rw [← Nat.pow_add]; congr 1; omega
  rw [e, hm, Nat.gcd_mul_left]
  by_cases h : k < n
  · have h2 := h1 h
    rw [hm, Nat.mul_div_cancel_left _ (Nat.two_pow_pos k)] at h2
    rw [odd_gcd m _ h2, Nat.mul_one]
  · have : n - k = 0 := by omega
    rw [this, Nat.pow_zero, Nat.gcd_one_right, Nat.mul_one]

set_option maxHeartbeats 2000000 in
theorem power_walk (A : Nat) (hA : A < 2 ^ 256) (n : Nat) (hn : n < 256) (w : World) : Calls Try.prog 12 #[num A, .int .u8 (n : Nat)] w fun e w' => e = .returned (.bool true) ∧ Below w.heap.size w w' := by
  have hp : ∀ i : Nat, i < 256 → (2 : Nat) ^ i < 2 ^ 256 := fun i hi => Nat.pow_lt_pow_right (by decide) hi
  have one : ∀ i : Nat, i < 256 → shN 1 (i : Int) = 2 ^ i := fun i hi => by rw [shN_left 1 i hi, Nat.one_mul, Nat.mod_eq_of_lt (hp i hi)]
  obtain ⟨k, hk, h0, h1⟩ := low_bits A n
  have I := ofL_any 1 (by omega)
  have S1 := shift_any 1 (by omega) (n : Int) (by omega) (by omega)
  rw [one n hn] at S1
  have hT := hp n hn
  have hT0 : 0 < 2 ^ n := Nat.two_pow_pos n
  obtain ⟨q, r, hq, hr, e1, D⟩ := div_ex A (2 ^ n) hA hT (by omega)
  have S2 := shift_any q hq (n : Int) (by omega) (by omega)
  have hqn : q * 2 ^ n < 2 ^ 256 := by omega
  rw [shN_left q n hn, Nat.mod_eq_of_lt hqn] at S2
  obtain ⟨S, c, hS, hc, e2, SU⟩ := sub_ex A (q * 2 ^ n) hA hqn
  have hc0 : c = 0 := by omega
  subst hc0
  have hSr : S = r := by omega
  subst hSr
  have G := common_any A (2 ^ n) hA hT
  rw [pow_gcd A n k hk h0 h1] at G
  have S3 := shift_any A hA (-(n : Int)) (by omega) (by omega)
  have e3 : shN A (-(n : Int)) = q := by
    have : A / 2 ^ n = q := by rw [e1, Nat.mul_comm, Nat.mul_add_div hT0, Nat.div_eq_of_lt hr, Nat.add_zero]
    by_cases hz : n = 0
    · subst hz
      rw [show (-((0 : Nat) : Int)) = 0 by rfl, shN_zero A hA, ← this]; simp
    · rw [shN_right A n (by omega), this]
  rw [e3] at S3
  have BL := bits_any S (by omega)
  have hbl : Go.bitLen S ≤ n := by
    by_cases hz : S = 0
    · subst hz; rw [show Go.bitLen 0 = 0 by decide]; omega
    · by_cases hc : Go.bitLen S ≤ n
      · exact hc
      · exfalso
        have h3 := (Go.bitLen_spec S).2 hz
        have h4 : 2 ^ n ≤ 2 ^ (Go.bitLen S - 1) := Nat.pow_le_pow_right (by decide) (by omega)
        omega
  have S4 := shift_any 1 (by omega) (k : Int) (by omega) (by omega)
  rw [one k (by omega)] at S4
  have bte : ∀ j : Nat, bt A (j : Int) = A / 2 ^ j % 2 := fun j => by unfold bt; rw [if_neg (by omega), Int.toNat_natCast]
  refine power_some A n k (Go.bitLen S) 1 (2 ^ n) q S (q * 2 ^ n) (2 ^ k) hn hk hbl I S1 D S2 SU G ?_ ?_ S3 BL S4 w
  · intro j hj
    have := bit_any A hA (j : Int)
    rw [bte, h0 j hj] at this
    exact this
  · intro hkn
    have := bit_any A hA (k : Int)
    rw [bte, h1 hkn] at this
    exact this
end Go.Proofs.Ytgfgicpffajgdaa
