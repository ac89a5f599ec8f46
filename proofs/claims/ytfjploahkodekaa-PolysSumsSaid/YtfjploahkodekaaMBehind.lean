/-
  divides.behind: how often, and what is left, bit by bit.
-/
import Derived.Test.YtfjploahkodekaaMBehN
import Derived.Test.YtfjploahkodekaaMCoreH
import Derived.Test.YtfjploahkodekaaMMulW
import Derived.Test.YtfjploahkodekaaMShift
namespace Go.Proofs.Ytfjploahkodekaa
set_option maxRecDepth 100000
open Go.RowKit
set_option linter.unusedSimpArgs false
set_option linter.unusedVariables false
attribute [local go_sem ↓] Go.wp_at_zero Go.wp_at_succ

theorem set_cell (X Y k x : Nat) (hk : k < 4) (hx : x = wd Y k) (hy : ∀ i, i ≠ k → wd Y i = wd X i) :
    (#[.int .u64 (wd X 0 : Nat), .int .u64 (wd X 1 : Nat), .int .u64 (wd X 2 : Nat), .int .u64 (wd X 3 : Nat)] : Array Value).setIfInBounds k (.int .u64 (x : Nat)) = #[.int .u64 (wd Y 0 : Nat), .int .u64 (wd Y 1 : Nat), .int .u64 (wd Y 2 : Nat), .int .u64 (wd Y 3 : Nat)] := by
  subst hx
  match k, hk with
  | 0, _ => rw [hy 1 (by decide), hy 2 (by decide), hy 3 (by decide)]; rfl
  | 1, _ => rw [hy 0 (by decide), hy 2 (by decide), hy 3 (by decide)]; rfl
  | 2, _ => rw [hy 0 (by decide), hy 1 (by decide), hy 3 (by decide)]; rfl
  | 3, _ => rw [hy 0 (by decide), hy 1 (by decide), hy 2 (by decide)]; rfl

set_option maxRecDepth 100000 in
set_option maxHeartbeats 4000000 in
theorem behind_walk (R A B : Nat) (hR : R < B) (hA : A < 2 ^ 256) (hB : B < 2 ^ 256) (m h : Nat) (hm : m = undN R A B) (hm256 : m ≤ 256) (hh : h = wide R A / 2 ^ m) (hhB : h < B)
    (CADD : ∀ w, Calls Try.prog 45 #[num (shN R (256 - (m : Int))), num (shN A (-(m : Int)))] w fun e w' => e = .returned (.tuple #[num h, .int .u64 0]) ∧ Below w.heap.size w w') (w : World) :
    Calls Try.prog 54 #[num R, num A, num B] w fun e w' => ∃ Q r : Nat, (wide R A = Q * B + r ∧ r < B) ∧ e = .returned (.tuple #[num Q, num r]) ∧ Below w.heap.size w w' := by
  have CU := und_any R A B (by omega) hA hB
  rw [← hm] at CU
  have CS1 := shift_any R (by omega) (256 - (m : Int)) (by omega) (by omega)
  have CS2 := shift_any A hA (-(m : Int)) (by omega) (by omega)
  obtain ⟨x1, hx1⟩ : ∃ x, shN R (256 - (m : Int)) = x := ⟨_, rfl⟩
  obtain ⟨x2, hx2⟩ : ∃ x, shN A (-(m : Int)) = x := ⟨_, rfl⟩
  rw [hx1] at CS1 CADD
  rw [hx2] at CS2 CADD
  have AU := Lib.hid CU; have AS1 := Lib.hid CS1; have AS2 := Lib.hid CS2; have AA := Lib.hid CADD
  have HM := Lib.hid hm; have HH := Lib.hid hh
  clear CU CS1 CS2 CADD hm hh hx1 hx2
  go_enter Try.func54, Try.ntmps54
  go_wp2_with fail
  have BW := Lib.hid (Below.refl w.heap.size w)
  have Nl : At (((((w.alloc (.cells #[.int .u64 (wd R 0 : Nat), .int .u64 (wd R 1 : Nat), .int .u64 (wd R 2 : Nat), .int .u64 (wd R 3 : Nat)] 24)).alloc (.cells #[.int .u64 (wd A 0 : Nat), .int .u64 (wd A 1 : Nat), .int .u64 (wd A 2 : Nat), .int .u64 (wd A 3 : Nat)] 24)).alloc (.cells #[.int .u64 (wd B 0 : Nat), .int .u64 (wd B 1 : Nat), .int .u64 (wd B 2 : Nat), .int .u64 (wd B 3 : Nat)] 24)).alloc (.cells #[.int .u64 0, .int .u64 0, .int .u64 0, .int .u64 0] 24)).alloc (.cells #[.int .u64 0, .int .u64 0, .int .u64 0, .int .u64 0] 24)) (w.heap.size) 24 #[.int .u64 (wd R 0 : Nat), .int .u64 (wd R 1 : Nat), .int .u64 (wd R 2 : Nat), .int .u64 (wd R 3 : Nat)] := ((((At.at_ _ _ _ _ (by simp)).alloc _).alloc _).alloc _).alloc _
  have Na : At (((((w.alloc (.cells #[.int .u64 (wd R 0 : Nat), .int .u64 (wd R 1 : Nat), .int .u64 (wd R 2 : Nat), .int .u64 (wd R 3 : Nat)] 24)).alloc (.cells #[.int .u64 (wd A 0 : Nat), .int .u64 (wd A 1 : Nat), .int .u64 (wd A 2 : Nat), .int .u64 (wd A 3 : Nat)] 24)).alloc (.cells #[.int .u64 (wd B 0 : Nat), .int .u64 (wd B 1 : Nat), .int .u64 (wd B 2 : Nat), .int .u64 (wd B 3 : Nat)] 24)).alloc (.cells #[.int .u64 0, .int .u64 0, .int .u64 0, .int .u64 0] 24)).alloc (.cells #[.int .u64 0, .int .u64 0, .int .u64 0, .int .u64 0] 24)) (w.heap.size + 1) 24 #[.int .u64 (wd A 0 : Nat), .int .u64 (wd A 1 : Nat), .int .u64 (wd A 2 : Nat), .int .u64 (wd A 3 : Nat)] := (((At.at_ _ _ _ _ (by simp)).alloc _).alloc _).alloc _
  have Nb : At (((((w.alloc (.cells #[.int .u64 (wd R 0 : Nat), .int .u64 (wd R 1 : Nat), .int .u64 (wd R 2 : Nat), .int .u64 (wd R 3 : Nat)] 24)).alloc (.cells #[.int .u64 (wd A 0 : Nat), .int .u64 (wd A 1 : Nat), .int .u64 (wd A 2 : Nat), .int .u64 (wd A 3 : Nat)] 24)).alloc (.cells #[.int .u64 (wd B 0 : Nat), .int .u64 (wd B 1 : Nat), .int .u64 (wd B 2 : Nat), .int .u64 (wd B 3 : Nat)] 24)).alloc (.cells #[.int .u64 0, .int .u64 0, .int .u64 0, .int .u64 0] 24)).alloc (.cells #[.int .u64 0, .int .u64 0, .int .u64 0, .int .u64 0] 24)) (w.heap.size + 1 + 1) 24 #[.int .u64 (wd B 0 : Nat), .int .u64 (wd B 1 : Nat), .int .u64 (wd B 2 : Nat), .int .u64 (wd B 3 : Nat)] := ((At.at_ _ _ _ _ (by simp)).alloc _).alloc _
  have Nq : At (((((w.alloc (.cells #[.int .u64 (wd R 0 : Nat), .int .u64 (wd R 1 : Nat), .int .u64 (wd R 2 : Nat), .int .u64 (wd R 3 : Nat)] 24)).alloc (.cells #[.int .u64 (wd A 0 : Nat), .int .u64 (wd A 1 : Nat), .int .u64 (wd A 2 : Nat), .int .u64 (wd A 3 : Nat)] 24)).alloc (.cells #[.int .u64 (wd B 0 : Nat), .int .u64 (wd B 1 : Nat), .int .u64 (wd B 2 : Nat), .int .u64 (wd B 3 : Nat)] 24)).alloc (.cells #[.int .u64 0, .int .u64 0, .int .u64 0, .int .u64 0] 24)).alloc (.cells #[.int .u64 0, .int .u64 0, .int .u64 0, .int .u64 0] 24)) (w.heap.size + 1 + 1 + 1) 24 #[.int .u64 0, .int .u64 0, .int .u64 0, .int .u64 0] := (At.at_ _ _ _ _ (by simp)).alloc _
  have Eq : w.heap.size ≤ w.heap.size + 1 + 1 + 1 := by have := BW.out.size; omega
  have Dlq : w.heap.size ≠ w.heap.size + 1 + 1 + 1 := by omega
  have Daq : w.heap.size + 1 ≠ w.heap.size + 1 + 1 + 1 := by omega
  have Dbq : w.heap.size + 1 + 1 ≠ w.heap.size + 1 + 1 + 1 := by omega
  have Nr : At (((((w.alloc (.cells #[.int .u64 (wd R 0 : Nat), .int .u64 (wd R 1 : Nat), .int .u64 (wd R 2 : Nat), .int .u64 (wd R 3 : Nat)] 24)).alloc (.cells #[.int .u64 (wd A 0 : Nat), .int .u64 (wd A 1 : Nat), .int .u64 (wd A 2 : Nat), .int .u64 (wd A 3 : Nat)] 24)).alloc (.cells #[.int .u64 (wd B 0 : Nat), .int .u64 (wd B 1 : Nat), .int .u64 (wd B 2 : Nat), .int .u64 (wd B 3 : Nat)] 24)).alloc (.cells #[.int .u64 0, .int .u64 0, .int .u64 0, .int .u64 0] 24)).alloc (.cells #[.int .u64 0, .int .u64 0, .int .u64 0, .int .u64 0] 24)) (w.heap.size + 1 + 1 + 1 + 1) 24 #[.int .u64 0, .int .u64 0, .int .u64 0, .int .u64 0] := At.at_ _ _ _ _ (by simp)
  have Er : w.heap.size ≤ w.heap.size + 1 + 1 + 1 + 1 := by have := BW.out.size; omega
  have Dlr : w.heap.size ≠ w.heap.size + 1 + 1 + 1 + 1 := by omega
  have Dar : w.heap.size + 1 ≠ w.heap.size + 1 + 1 + 1 + 1 := by omega
  have Dbr : w.heap.size + 1 + 1 ≠ w.heap.size + 1 + 1 + 1 + 1 := by omega
  have Dqr : w.heap.size + 1 + 1 + 1 ≠ w.heap.size + 1 + 1 + 1 + 1 := by omega
  have NB : Below w.heap.size w (((((w.alloc (.cells #[.int .u64 (wd R 0 : Nat), .int .u64 (wd R 1 : Nat), .int .u64 (wd R 2 : Nat), .int .u64 (wd R 3 : Nat)] 24)).alloc (.cells #[.int .u64 (wd A 0 : Nat), .int .u64 (wd A 1 : Nat), .int .u64 (wd A 2 : Nat), .int .u64 (wd A 3 : Nat)] 24)).alloc (.cells #[.int .u64 (wd B 0 : Nat), .int .u64 (wd B 1 : Nat), .int .u64 (wd B 2 : Nat), .int .u64 (wd B 3 : Nat)] 24)).alloc (.cells #[.int .u64 0, .int .u64 0, .int .u64 0, .int .u64 0] 24)).alloc (.cells #[.int .u64 0, .int .u64 0, .int .u64 0, .int .u64 0] 24)) := gr_alloc (gr_alloc (gr_alloc (gr_alloc (gr_alloc BW.out _) _) _) _) _
  clear BW 
  generalize (((((w.alloc (.cells #[.int .u64 (wd R 0 : Nat), .int .u64 (wd R 1 : Nat), .int .u64 (wd R 2 : Nat), .int .u64 (wd R 3 : Nat)] 24)).alloc (.cells #[.int .u64 (wd A 0 : Nat), .int .u64 (wd A 1 : Nat), .int .u64 (wd A 2 : Nat), .int .u64 (wd A 3 : Nat)] 24)).alloc (.cells #[.int .u64 (wd B 0 : Nat), .int .u64 (wd B 1 : Nat), .int .u64 (wd B 2 : Nat), .int .u64 (wd B 3 : Nat)] 24)).alloc (.cells #[.int .u64 0, .int .u64 0, .int .u64 0, .int .u64 0] 24)).alloc (.cells #[.int .u64 0, .int .u64 0, .int .u64 0, .int .u64 0] 24)) = W1 at *
  generalize w.heap.size + 1 + 1 + 1 + 1 = gr at *
  generalize w.heap.size + 1 + 1 + 1 = gq at *
  generalize w.heap.size + 1 + 1 = gb at *
  generalize w.heap.size + 1 = ga at *
  obtain ⟨gl, hg0⟩ : ∃ g, g = w.heap.size := ⟨_, rfl⟩
  rw [← hg0] at Nl ⊢
  rw [← hg0] at Dlq Dlr
  clear hg0
  have Fl := Lib.hid Nl
  have Fa := Lib.hid Na
  have Fb := Lib.hid Nb
  have Fq := Lib.hid Nq
  have Fr := Lib.hid Nr
  have BW := Lib.hid NB
  clear NB Nl Na Nb Nq Nr
  refine (AU.out _).mono ?_
  rintro e v2 ⟨rfl, z2⟩
  have Nl := Lib.hid (Fl.out.on z2)
  have Na := Lib.hid (Fa.out.on z2)
  have Nb := Lib.hid (Fb.out.on z2)
  have Nq := Lib.hid (Fq.out.on z2)
  have Nr := Lib.hid (Fr.out.on z2)
  have NB := Lib.hid (bel_tr BW.out z2)
  clear BW z2 Fl Fa Fb Fq Fr
  have Fl := Nl
  have Fa := Na
  have Fb := Nb
  have Fq := Nq
  have Fr := Nr
  have BW := NB
  clear NB Nl Na Nb Nq Nr
  go_wp2_with fail
  try simp only [List.append_eq, List.cons_append, List.nil_append]
  refine wp_region_noPanic ?_
  refine wp_region_held_drew (S := fun w' => True) (by kernel_rfl) (trivial) (fun _ => ?_)
  refine wpAnyH_cores (fuel := 2) (⟨0, 21, [], Kind.val (.agg #[.int .u64 (wd R 0 : Nat), .int .u64 (wd R 1 : Nat), .int .u64 (wd R 2 : Nat), .int .u64 (wd R 3 : Nat)]), false⟩ :: ⟨1, 22, [], Kind.val (.int .i64 (m : Nat)), true⟩ :: ⟨2, 23, [1], Kind.val (.int .i64 (256 - (m : Int))), true⟩ :: ⟨3, 24, [0, 2], Kind.val (.agg #[.int .u64 (wd x1 0 : Nat), .int .u64 (wd x1 1 : Nat), .int .u64 (wd x1 2 : Nat), .int .u64 (wd x1 3 : Nat)]), false⟩ :: ⟨4, 25, [], Kind.val (.agg #[.int .u64 (wd A 0 : Nat), .int .u64 (wd A 1 : Nat), .int .u64 (wd A 2 : Nat), .int .u64 (wd A 3 : Nat)]), false⟩ :: ⟨5, 26, [], Kind.val (.int .i64 (m : Nat)), true⟩ :: ⟨6, 27, [5], Kind.val (.int .i64 (-(m : Int))), true⟩ :: ⟨7, 28, [4, 6, 3], Kind.val (.agg #[.int .u64 (wd x2 0 : Nat), .int .u64 (wd x2 1 : Nat), .int .u64 (wd x2 2 : Nat), .int .u64 (wd x2 3 : Nat)]), false⟩ :: ⟨8, 29, [3, 7], Kind.val (.tuple #[.agg #[.int .u64 (wd h 0 : Nat), .int .u64 (wd h 1 : Nat), .int .u64 (wd h 2 : Nat), .int .u64 (wd h 3 : Nat)], .int .u64 0]), false⟩ :: ⟨9, 20, [8], Kind.val (.tuple #[.agg #[.int .u64 (wd h 0 : Nat), .int .u64 (wd h 1 : Nat), .int .u64 (wd h 2 : Nat), .int .u64 (wd h 3 : Nat)], .int .u64 0]), true⟩ :: ⟨10, 30, [9], Kind.val (.agg #[.int .u64 (wd h 0 : Nat), .int .u64 (wd h 1 : Nat), .int .u64 (wd h 2 : Nat), .int .u64 (wd h 3 : Nat)]), true⟩ :: ⟨11, 31, [9], Kind.val (.int .u64 0), true⟩ :: ⟨12, 9, [], Kind.cell v2.heap.size 24 #[.int .u64 0, .int .u64 0, .int .u64 0, .int .u64 0], false⟩ :: []) _ _ v2 _ ?_ ?_ ?_ ?_ ?_ ?_ ?_ ?_ ?_ ?_ ?_
  · rfl
  · kernel_rfl
  · exact of_decide_eq_true rfl
  · exact all_cons ⟨_, rfl, rfl⟩ (all_cons ⟨_, rfl, rfl⟩ (all_cons ⟨_, rfl, rfl⟩ (all_cons ⟨_, rfl, rfl⟩ (all_cons ⟨_, rfl, rfl⟩ (all_cons ⟨_, rfl, rfl⟩ (all_cons ⟨_, rfl, rfl⟩ (all_cons ⟨_, rfl, rfl⟩ (all_cons ⟨_, rfl, rfl⟩ (all_cons ⟨_, rfl, rfl⟩ (all_cons ⟨_, rfl, rfl⟩ (all_cons ⟨_, rfl, rfl⟩ (all_cons ⟨_, rfl, rfl⟩ (all_nil)))))))))))))
  · exact fun _ hb => trivial
  · exact (Below.refl _ _).drew
  · kernel_rfl
  · exact fun _ _ _ _ _ h => h
  · refine all_cons ?_ (all_cons ?_ (all_cons ?_ (all_cons ?_ (all_cons ?_ (all_cons ?_ (all_cons ?_ (all_cons ?_ (all_cons ?_ (all_cons ?_ (all_cons ?_ (all_cons ?_ (all_cons ?_ (all_nil)))))))))))))
    · exact core_pureAs _ (by rfl)
    · exact core_move _ _ _ _ _ _ (by rfl) (by rfl) (known_old 8 _ (of_decide_eq_true (by rfl)) (by rfl))
    · exact core_bin _ _ _ _ _ _ _ _ _ _ _ _ (by rfl) (by rfl) (known_const _) (known_core 1 22 _ _ (of_decide_eq_true (by rfl)) (by rfl) (by rfl) (by rfl)) (fun ρ w hx hy => by simp only [execOp, hx, hy]; simp [go_sem]; rw [IntKind.wrap_i64]; omega)
    · exact core_pureAs _ (by rfl)
    · exact core_pureAs _ (by rfl)
    · exact core_move _ _ _ _ _ _ (by rfl) (by rfl) (known_old 8 _ (of_decide_eq_true (by rfl)) (by rfl))
    · exact core_un _ _ _ _ _ _ _ _ _ (by rfl) (by rfl) (known_core 5 26 _ _ (of_decide_eq_true (by rfl)) (by rfl) (by rfl) (by rfl)) (fun ρ w hx => by simp only [execOp, hx]; simp [go_sem]; rw [IntKind.wrap_i64]; omega)
    · exact core_pureAs _ (by rfl)
    · exact core_pureAs _ (by rfl)
    · exact core_move _ _ _ _ _ _ (by rfl) (by rfl) (known_core 8 29 _ _ (of_decide_eq_true (by rfl)) (by rfl) (by rfl) (by rfl))
    · exact core_extract _ _ 0 _ _ _ _ _ (by rfl) (by rfl) (known_core 9 20 _ _ (of_decide_eq_true (by rfl)) (by rfl) (by rfl) (by rfl)) (by rfl)
    · exact core_extract _ _ 1 _ _ _ _ _ (by rfl) (by rfl) (known_core 9 20 _ _ (of_decide_eq_true (by rfl)) (by rfl) (by rfl) (by rfl)) (by rfl)
    · exact core_pureAs _ (by rfl)
  · refine all_cons ?_ (all_cons ?_ (all_cons ?_ (all_cons ?_ (all_cons ?_ (all_cons ?_ (all_cons ?_ (all_cons ?_ (all_cons ?_ (all_cons ?_ (all_cons ?_ (all_cons ?_ (all_cons ?_ (all_nil)))))))))))))
    · exact fun _ => core_load _ _ _ _ _ gl _ _ _ _ (by rfl) (by rfl) (known_old 3 _ (of_decide_eq_true (by rfl)) (by rfl)) Fl.out
    · exact core_stepAs _ (by rfl)
    · exact core_stepAs _ (by rfl)
    · exact fun _ => core_call _ 57 _ _ [.tmp 21, .tmp 23] _ _ _ _ _ _ (by rfl) Try.func57 (by kernel_rfl) (by rfl) (by rfl) (.cons (known_core 0 21 _ _ (of_decide_eq_true (by rfl)) (by rfl) (by rfl) (by rfl)) (.cons (known_core 2 23 _ _ (of_decide_eq_true (by rfl)) (by rfl) (by rfl) (by rfl)) .nil)) (AS1.out)
    · exact fun _ => core_load _ _ _ _ _ ga _ _ _ _ (by rfl) (by rfl) (known_old 4 _ (of_decide_eq_true (by rfl)) (by rfl)) Fa.out
    · exact core_stepAs _ (by rfl)
    · exact core_stepAs _ (by rfl)
    · exact fun _ => core_call _ 57 _ _ [.tmp 25, .tmp 27] _ _ _ _ _ _ (by rfl) Try.func57 (by kernel_rfl) (by rfl) (by rfl) (.cons (known_core 4 25 _ _ (of_decide_eq_true (by rfl)) (by rfl) (by rfl) (by rfl)) (.cons (known_core 6 27 _ _ (of_decide_eq_true (by rfl)) (by rfl) (by rfl) (by rfl)) .nil)) (AS2.out)
    · exact fun _ => core_call _ 45 _ _ [.tmp 24, .tmp 28] _ _ _ _ _ _ (by rfl) Try.func45 (by kernel_rfl) (by rfl) (by rfl) (.cons (known_core 3 24 _ _ (of_decide_eq_true (by rfl)) (by rfl) (by rfl) (by rfl)) (.cons (known_core 7 28 _ _ (of_decide_eq_true (by rfl)) (by rfl) (by rfl) (by rfl)) .nil)) (AA.out)
    · exact core_stepAs _ (by rfl)
    · exact core_stepAs _ (by rfl)
    · exact core_stepAs _ (by rfl)
    · exact fun _ => core_alloc _ _ _ _ _ (by rfl) (by rfl) (Nat.le_refl _)
  intro vs y3 hc
  obtain ⟨vv0, vv1, vv2, vv3, vv4, vv5, vv6, vv7, vv8, vv9, vv10, vv11, vv12, rfl⟩ := len13 vs hc.lv
  have qq0 : vv0 = .agg #[.int .u64 (wd R 0 : Nat), .int .u64 (wd R 1 : Nat), .int .u64 (wd R 2 : Nat), .int .u64 (wd R 3 : Nat)] := by obtain ⟨xx, hx, hy⟩ := hc.ok 0 _ rfl rfl; exact (Option.some.inj (show some vv0 = some xx from hx)).trans hy
  have qq1 : vv1 = .int .i64 (m : Nat) := by obtain ⟨xx, hx, hy⟩ := hc.ok 1 _ rfl rfl; exact (Option.some.inj (show some vv1 = some xx from hx)).trans hy
  have qq2 : vv2 = .int .i64 (256 - (m : Int)) := by obtain ⟨xx, hx, hy⟩ := hc.ok 2 _ rfl rfl; exact (Option.some.inj (show some vv2 = some xx from hx)).trans hy
  have qq3 : vv3 = .agg #[.int .u64 (wd x1 0 : Nat), .int .u64 (wd x1 1 : Nat), .int .u64 (wd x1 2 : Nat), .int .u64 (wd x1 3 : Nat)] := by obtain ⟨xx, hx, hy⟩ := hc.ok 3 _ rfl rfl; exact (Option.some.inj (show some vv3 = some xx from hx)).trans hy
  have qq4 : vv4 = .agg #[.int .u64 (wd A 0 : Nat), .int .u64 (wd A 1 : Nat), .int .u64 (wd A 2 : Nat), .int .u64 (wd A 3 : Nat)] := by obtain ⟨xx, hx, hy⟩ := hc.ok 4 _ rfl rfl; exact (Option.some.inj (show some vv4 = some xx from hx)).trans hy
  have qq5 : vv5 = .int .i64 (m : Nat) := by obtain ⟨xx, hx, hy⟩ := hc.ok 5 _ rfl rfl; exact (Option.some.inj (show some vv5 = some xx from hx)).trans hy
  have qq6 : vv6 = .int .i64 (-(m : Int)) := by obtain ⟨xx, hx, hy⟩ := hc.ok 6 _ rfl rfl; exact (Option.some.inj (show some vv6 = some xx from hx)).trans hy
  have qq7 : vv7 = .agg #[.int .u64 (wd x2 0 : Nat), .int .u64 (wd x2 1 : Nat), .int .u64 (wd x2 2 : Nat), .int .u64 (wd x2 3 : Nat)] := by obtain ⟨xx, hx, hy⟩ := hc.ok 7 _ rfl rfl; exact (Option.some.inj (show some vv7 = some xx from hx)).trans hy
  have qq8 : vv8 = .tuple #[.agg #[.int .u64 (wd h 0 : Nat), .int .u64 (wd h 1 : Nat), .int .u64 (wd h 2 : Nat), .int .u64 (wd h 3 : Nat)], .int .u64 0] := by obtain ⟨xx, hx, hy⟩ := hc.ok 8 _ rfl rfl; exact (Option.some.inj (show some vv8 = some xx from hx)).trans hy
  have qq9 : vv9 = .tuple #[.agg #[.int .u64 (wd h 0 : Nat), .int .u64 (wd h 1 : Nat), .int .u64 (wd h 2 : Nat), .int .u64 (wd h 3 : Nat)], .int .u64 0] := by obtain ⟨xx, hx, hy⟩ := hc.ok 9 _ rfl rfl; exact (Option.some.inj (show some vv9 = some xx from hx)).trans hy
  have qq10 : vv10 = .agg #[.int .u64 (wd h 0 : Nat), .int .u64 (wd h 1 : Nat), .int .u64 (wd h 2 : Nat), .int .u64 (wd h 3 : Nat)] := by obtain ⟨xx, hx, hy⟩ := hc.ok 10 _ rfl rfl; exact (Option.some.inj (show some vv10 = some xx from hx)).trans hy
  have qq11 : vv11 = .int .u64 0 := by obtain ⟨xx, hx, hy⟩ := hc.ok 11 _ rfl rfl; exact (Option.some.inj (show some vv11 = some xx from hx)).trans hy
  obtain ⟨xx, hx, gh, hv, Eh, Ah⟩ := hc.ok 12 _ rfl rfl
  have qq12 : vv12 = .pointer (some ⟨gh, 0, none⟩) := (Option.some.inj (show some vv12 = some xx from hx)).trans hv
  clear hx hv
  have BZ := hc.bel
  clear hc
  have Nl := Fl.out.on BZ
  have Na := Fa.out.on BZ
  have Nb := Fb.out.on BZ
  have Nq := Fq.out.on BZ
  have Nr := Fr.out.on BZ
  have Dlh : gl ≠ gh := by have := Fl.out.lt; omega
  have Dah : ga ≠ gh := by have := Fa.out.lt; omega
  have Dbh : gb ≠ gh := by have := Fb.out.lt; omega
  have Dqh : gq ≠ gh := by have := Fq.out.lt; omega
  have Drh : gr ≠ gh := by have := Fr.out.lt; omega
  have HSZ3 := BW.out.size
  have NB := bel_tr BW.out BZ
  clear BW BZ Fl Fa Fb Fq Fr
  subst qq0 qq1 qq2 qq3 qq4 qq5 qq6 qq7 qq8 qq9 qq10 qq11 qq12
  simp only [List.map_cons, List.map_nil, over, Act.put, List.setIfInBounds_toArray, List.set_cons_zero, List.set_cons_succ]
  have OLD := Ah
  replace Nl := put4_far Nl Dlh (.int .u64 (wd h 0 : Nat)) (.int .u64 (wd h 1 : Nat)) (.int .u64 (wd h 2 : Nat)) (.int .u64 (wd h 3 : Nat))
  replace Na := put4_far Na Dah (.int .u64 (wd h 0 : Nat)) (.int .u64 (wd h 1 : Nat)) (.int .u64 (wd h 2 : Nat)) (.int .u64 (wd h 3 : Nat))
  replace Nb := put4_far Nb Dbh (.int .u64 (wd h 0 : Nat)) (.int .u64 (wd h 1 : Nat)) (.int .u64 (wd h 2 : Nat)) (.int .u64 (wd h 3 : Nat))
  replace Nq := put4_far Nq Dqh (.int .u64 (wd h 0 : Nat)) (.int .u64 (wd h 1 : Nat)) (.int .u64 (wd h 2 : Nat)) (.int .u64 (wd h 3 : Nat))
  replace Nr := put4_far Nr Drh (.int .u64 (wd h 0 : Nat)) (.int .u64 (wd h 1 : Nat)) (.int .u64 (wd h 2 : Nat)) (.int .u64 (wd h 3 : Nat))
  replace Ah := put4_at Ah (.int .u64 (wd h 0 : Nat)) (.int .u64 (wd h 1 : Nat)) (.int .u64 (wd h 2 : Nat)) (.int .u64 (wd h 3 : Nat))
  replace NB := put4_below NB (Nat.le_trans HSZ3 Eh) (.int .u64 (wd h 0 : Nat)) (.int .u64 (wd h 1 : Nat)) (.int .u64 (wd h 2 : Nat)) (.int .u64 (wd h 3 : Nat))
  refine store_one (i := 13) _ _ _ _ _ gh _ _ _ _ _ _ _ _ (by kernel_rfl) (by rfl) (by rfl) (by rfl) OLD (trivial) ?_
  clear OLD
  generalize (put4 y3 gh (.int .u64 (wd h 0 : Nat)) (.int .u64 (wd h 1 : Nat)) (.int .u64 (wd h 2 : Nat)) (.int .u64 (wd h 3 : Nat))) = y3_13 at *
  refine assign_one (i := 14) _ 10 _ _ _ _ (by kernel_rfl) (by rfl) (by rfl) (trivial) ?_
  try simp only [Act.put, List.setIfInBounds_toArray, List.set_cons_zero, List.set_cons_succ]
  refine wpAnyH_done (by kernel_rfl) ?_ _
  refine NoPanic.normal ?_
  have Fl := Lib.hid Nl
  have Fa := Lib.hid Na
  have Fb := Lib.hid Nb
  have Fq := Lib.hid Nq
  have Fr := Lib.hid Nr
  have Fh := Lib.hid Ah
  have BW := Lib.hid NB
  clear NB Nl Na Nb Nq Nr Ah
  clear Eh
  clear HSZ3
  go_wp2_with fail
  try simp only [List.append_eq, List.cons_append, List.nil_append]
  refine wp_region_noPanic ?_
  refine wp_region_held_drew (S := fun w' => True) (by kernel_rfl) (trivial) (fun _ => ?_)
  refine wpAnyH_cores (fuel := 2) (⟨0, 32, [], Kind.val (.agg #[.int .u64 (wd h 0 : Nat), .int .u64 (wd h 1 : Nat), .int .u64 (wd h 2 : Nat), .int .u64 (wd h 3 : Nat)]), false⟩ :: ⟨1, 33, [0], Kind.val (.agg #[.int .u64 (wd h 0 : Nat), .int .u64 (wd h 1 : Nat), .int .u64 (wd h 2 : Nat), .int .u64 (wd h 3 : Nat)]), false⟩ :: ⟨2, 34, [], Kind.val (.agg #[.int .u64 (wd B 0 : Nat), .int .u64 (wd B 1 : Nat), .int .u64 (wd B 2 : Nat), .int .u64 (wd B 3 : Nat)]), false⟩ :: ⟨3, 35, [2, 1], Kind.val (.agg #[.int .u64 (wd B 0 : Nat), .int .u64 (wd B 1 : Nat), .int .u64 (wd B 2 : Nat), .int .u64 (wd B 3 : Nat)]), false⟩ :: ⟨4, 11, [], Kind.cell y3_13.heap.size 91 #[.int .u64 0, .int .u64 0, .int .u64 0, .int .u64 0], false⟩ :: ⟨5, 12, [], Kind.cell y3_13.heap.size 91 #[.int .u64 0, .int .u64 0, .int .u64 0, .int .u64 0], false⟩ :: []) _ _ y3_13 _ ?_ ?_ ?_ ?_ ?_ ?_ ?_ ?_ ?_ ?_ ?_
  · rfl
  · kernel_rfl
  · exact of_decide_eq_true rfl
  · exact all_cons ⟨_, rfl, rfl⟩ (all_cons ⟨_, rfl, rfl⟩ (all_cons ⟨_, rfl, rfl⟩ (all_cons ⟨_, rfl, rfl⟩ (all_cons ⟨_, rfl, rfl⟩ (all_cons ⟨_, rfl, rfl⟩ (all_nil))))))
  · exact fun _ hb => trivial
  · exact (Below.refl _ _).drew
  · kernel_rfl
  · exact fun _ _ _ _ _ h => h
  · refine all_cons ?_ (all_cons ?_ (all_cons ?_ (all_cons ?_ (all_cons ?_ (all_cons ?_ (all_nil))))))
    · exact core_pureAs _ (by rfl)
    · exact core_pureAs _ (by rfl)
    · exact core_pureAs _ (by rfl)
    · exact core_pureAs _ (by rfl)
    · exact core_pureAs _ (by rfl)
    · exact core_pureAs _ (by rfl)
  · refine all_cons ?_ (all_cons ?_ (all_cons ?_ (all_cons ?_ (all_cons ?_ (all_cons ?_ (all_nil))))))
    · exact fun _ => core_load _ _ _ _ _ gh _ _ _ _ (by rfl) (by rfl) (known_old 9 _ (of_decide_eq_true (by rfl)) (by rfl)) Fh.out
    · exact fun _ => core_call _ 58 _ _ [.tmp 32] _ _ _ _ _ _ (by rfl) Try.func58 (by kernel_rfl) (by rfl) (by rfl) (.cons (known_core 0 32 _ _ (of_decide_eq_true (by rfl)) (by rfl) (by rfl) (by rfl)) .nil) (hold_any h)
    · exact fun _ => core_load _ _ _ _ _ gb _ _ _ _ (by rfl) (by rfl) (known_old 5 _ (of_decide_eq_true (by rfl)) (by rfl)) Fb.out
    · exact fun _ => core_call _ 58 _ _ [.tmp 34] _ _ _ _ _ _ (by rfl) Try.func58 (by kernel_rfl) (by rfl) (by rfl) (.cons (known_core 2 34 _ _ (of_decide_eq_true (by rfl)) (by rfl) (by rfl) (by rfl)) .nil) (hold_any B)
    · exact fun _ => core_allocH _ _ _ _ _ (by rfl) (by rfl) (Nat.le_refl _)
    · exact fun _ => core_allocH _ _ _ _ _ (by rfl) (by rfl) (Nat.le_refl _)
  intro vs y4 hc
  obtain ⟨vv0, vv1, vv2, vv3, vv4, vv5, rfl⟩ := len6 vs hc.lv
  have qq0 : vv0 = .agg #[.int .u64 (wd h 0 : Nat), .int .u64 (wd h 1 : Nat), .int .u64 (wd h 2 : Nat), .int .u64 (wd h 3 : Nat)] := by obtain ⟨xx, hx, hy⟩ := hc.ok 0 _ rfl rfl; exact (Option.some.inj (show some vv0 = some xx from hx)).trans hy
  have qq1 : vv1 = .agg #[.int .u64 (wd h 0 : Nat), .int .u64 (wd h 1 : Nat), .int .u64 (wd h 2 : Nat), .int .u64 (wd h 3 : Nat)] := by obtain ⟨xx, hx, hy⟩ := hc.ok 1 _ rfl rfl; exact (Option.some.inj (show some vv1 = some xx from hx)).trans hy
  have qq2 : vv2 = .agg #[.int .u64 (wd B 0 : Nat), .int .u64 (wd B 1 : Nat), .int .u64 (wd B 2 : Nat), .int .u64 (wd B 3 : Nat)] := by obtain ⟨xx, hx, hy⟩ := hc.ok 2 _ rfl rfl; exact (Option.some.inj (show some vv2 = some xx from hx)).trans hy
  have qq3 : vv3 = .agg #[.int .u64 (wd B 0 : Nat), .int .u64 (wd B 1 : Nat), .int .u64 (wd B 2 : Nat), .int .u64 (wd B 3 : Nat)] := by obtain ⟨xx, hx, hy⟩ := hc.ok 3 _ rfl rfl; exact (Option.some.inj (show some vv3 = some xx from hx)).trans hy
  obtain ⟨xx, hx, grs, hv, Ers, Ars⟩ := hc.ok 4 _ rfl rfl
  have qq4 : vv4 = .pointer (some ⟨grs, 0, none⟩) := (Option.some.inj (show some vv4 = some xx from hx)).trans hv
  clear hx hv
  obtain ⟨xx, hx, gby, hv, Eby, Aby⟩ := hc.ok 5 _ rfl rfl
  have qq5 : vv5 = .pointer (some ⟨gby, 0, none⟩) := (Option.some.inj (show some vv5 = some xx from hx)).trans hv
  clear hx hv
  have Drsby : grs ≠ gby := fun e => hc.far 4 5 _ _ rfl rfl rfl rfl (by decide) rfl rfl (by show some vv4 = some vv5; rw [qq4, qq5, e])
  have BZ := hc.bel
  clear hc
  have Nl := Fl.out.on BZ
  have Na := Fa.out.on BZ
  have Nb := Fb.out.on BZ
  have Nq := Fq.out.on BZ
  have Nr := Fr.out.on BZ
  have Nh := Fh.out.on BZ
  have Dlrs : gl ≠ grs := by have := Fl.out.lt; omega
  have Dars : ga ≠ grs := by have := Fa.out.lt; omega
  have Dbrs : gb ≠ grs := by have := Fb.out.lt; omega
  have Dqrs : gq ≠ grs := by have := Fq.out.lt; omega
  have Drrs : gr ≠ grs := by have := Fr.out.lt; omega
  have Dhrs : gh ≠ grs := by have := Fh.out.lt; omega
  have EErs : w.heap.size ≤ grs := Nat.le_trans BW.out.size Ers
  have Dlby : gl ≠ gby := by have := Fl.out.lt; omega
  have Daby : ga ≠ gby := by have := Fa.out.lt; omega
  have Dbby : gb ≠ gby := by have := Fb.out.lt; omega
  have Dqby : gq ≠ gby := by have := Fq.out.lt; omega
  have Drby : gr ≠ gby := by have := Fr.out.lt; omega
  have Dhby : gh ≠ gby := by have := Fh.out.lt; omega
  have HSZ4 := BW.out.size
  have NB := bel_tr BW.out BZ
  clear BW BZ Fl Fa Fb Fq Fr Fh
  subst qq0 qq1 qq2 qq3 qq4 qq5
  simp only [List.map_cons, List.map_nil, over, Act.put, List.setIfInBounds_toArray, List.set_cons_zero, List.set_cons_succ]
  have OLD := Ars
  replace Nl := put4_far Nl Dlrs (.int .u64 (wd h 0 : Nat)) (.int .u64 (wd h 1 : Nat)) (.int .u64 (wd h 2 : Nat)) (.int .u64 (wd h 3 : Nat))
  replace Na := put4_far Na Dars (.int .u64 (wd h 0 : Nat)) (.int .u64 (wd h 1 : Nat)) (.int .u64 (wd h 2 : Nat)) (.int .u64 (wd h 3 : Nat))
  replace Nb := put4_far Nb Dbrs (.int .u64 (wd h 0 : Nat)) (.int .u64 (wd h 1 : Nat)) (.int .u64 (wd h 2 : Nat)) (.int .u64 (wd h 3 : Nat))
  replace Nq := put4_far Nq Dqrs (.int .u64 (wd h 0 : Nat)) (.int .u64 (wd h 1 : Nat)) (.int .u64 (wd h 2 : Nat)) (.int .u64 (wd h 3 : Nat))
  replace Nr := put4_far Nr Drrs (.int .u64 (wd h 0 : Nat)) (.int .u64 (wd h 1 : Nat)) (.int .u64 (wd h 2 : Nat)) (.int .u64 (wd h 3 : Nat))
  replace Nh := put4_far Nh Dhrs (.int .u64 (wd h 0 : Nat)) (.int .u64 (wd h 1 : Nat)) (.int .u64 (wd h 2 : Nat)) (.int .u64 (wd h 3 : Nat))
  replace Ars := put4_at Ars (.int .u64 (wd h 0 : Nat)) (.int .u64 (wd h 1 : Nat)) (.int .u64 (wd h 2 : Nat)) (.int .u64 (wd h 3 : Nat))
  replace Aby := put4_far Aby Drsby.symm (.int .u64 (wd h 0 : Nat)) (.int .u64 (wd h 1 : Nat)) (.int .u64 (wd h 2 : Nat)) (.int .u64 (wd h 3 : Nat))
  replace NB := put4_below NB (Nat.le_trans HSZ4 Ers) (.int .u64 (wd h 0 : Nat)) (.int .u64 (wd h 1 : Nat)) (.int .u64 (wd h 2 : Nat)) (.int .u64 (wd h 3 : Nat))
  refine store_oneH (i := 6) _ _ _ _ _ grs _ _ _ _ _ _ _ _ (by kernel_rfl) (by rfl) (by rfl) (by rfl) OLD (trivial) ?_
  clear OLD
  generalize (put4 y4 grs (.int .u64 (wd h 0 : Nat)) (.int .u64 (wd h 1 : Nat)) (.int .u64 (wd h 2 : Nat)) (.int .u64 (wd h 3 : Nat))) = y4_6 at *
  have OLD := Aby
  replace Nl := put4_far Nl Dlby (.int .u64 (wd B 0 : Nat)) (.int .u64 (wd B 1 : Nat)) (.int .u64 (wd B 2 : Nat)) (.int .u64 (wd B 3 : Nat))
  replace Na := put4_far Na Daby (.int .u64 (wd B 0 : Nat)) (.int .u64 (wd B 1 : Nat)) (.int .u64 (wd B 2 : Nat)) (.int .u64 (wd B 3 : Nat))
  replace Nb := put4_far Nb Dbby (.int .u64 (wd B 0 : Nat)) (.int .u64 (wd B 1 : Nat)) (.int .u64 (wd B 2 : Nat)) (.int .u64 (wd B 3 : Nat))
  replace Nq := put4_far Nq Dqby (.int .u64 (wd B 0 : Nat)) (.int .u64 (wd B 1 : Nat)) (.int .u64 (wd B 2 : Nat)) (.int .u64 (wd B 3 : Nat))
  replace Nr := put4_far Nr Drby (.int .u64 (wd B 0 : Nat)) (.int .u64 (wd B 1 : Nat)) (.int .u64 (wd B 2 : Nat)) (.int .u64 (wd B 3 : Nat))
  replace Nh := put4_far Nh Dhby (.int .u64 (wd B 0 : Nat)) (.int .u64 (wd B 1 : Nat)) (.int .u64 (wd B 2 : Nat)) (.int .u64 (wd B 3 : Nat))
  replace Ars := put4_far Ars Drsby (.int .u64 (wd B 0 : Nat)) (.int .u64 (wd B 1 : Nat)) (.int .u64 (wd B 2 : Nat)) (.int .u64 (wd B 3 : Nat))
  replace Aby := put4_at Aby (.int .u64 (wd B 0 : Nat)) (.int .u64 (wd B 1 : Nat)) (.int .u64 (wd B 2 : Nat)) (.int .u64 (wd B 3 : Nat))
  replace NB := put4_below NB (Nat.le_trans HSZ4 Eby) (.int .u64 (wd B 0 : Nat)) (.int .u64 (wd B 1 : Nat)) (.int .u64 (wd B 2 : Nat)) (.int .u64 (wd B 3 : Nat))
  refine store_oneH (i := 7) _ _ _ _ _ gby _ _ _ _ _ _ _ _ (by kernel_rfl) (by rfl) (by rfl) (by rfl) OLD (trivial) ?_
  clear OLD
  generalize (put4 y4_6 gby (.int .u64 (wd B 0 : Nat)) (.int .u64 (wd B 1 : Nat)) (.int .u64 (wd B 2 : Nat)) (.int .u64 (wd B 3 : Nat))) = y4_7 at *
  refine wpAnyH_done (by kernel_rfl) ?_ _
  refine NoPanic.normal ?_
  have Fl := Lib.hid Nl
  have Fa := Lib.hid Na
  have Fb := Lib.hid Nb
  have Fq := Lib.hid Nq
  have Fr := Lib.hid Nr
  have Fh := Lib.hid Nh
  have Frs := Lib.hid Ars
  have Fby := Lib.hid Aby
  have BW := Lib.hid NB
  clear NB Nl Na Nb Nq Nr Nh Ars Aby
  clear Ers
  have Ers := EErs
  clear Eby
  clear HSZ4
  go_wp2_with fail
  clear Fl
  clear Fb
  clear Fh
  go_loopw [37] (fun s wr => ∃ (i Q r : Nat), i ≤ m ∧ s = .int .i64 (i : Nat) ∧ Hid (At wr ga 24 #[.int .u64 (wd A 0 : Nat), .int .u64 (wd A 1 : Nat), .int .u64 (wd A 2 : Nat), .int .u64 (wd A 3 : Nat)] ∧ At wr gby 91 #[.int .u64 (wd B 0 : Nat), .int .u64 (wd B 1 : Nat), .int .u64 (wd B 2 : Nat), .int .u64 (wd B 3 : Nat)] ∧ At wr grs 91 #[.int .u64 (wd r 0 : Nat), .int .u64 (wd r 1 : Nat), .int .u64 (wd r 2 : Nat), .int .u64 (wd r 3 : Nat)] ∧ At wr gq 24 #[.int .u64 (wd (Q * 2 ^ (m - i)) 0 : Nat), .int .u64 (wd (Q * 2 ^ (m - i)) 1 : Nat), .int .u64 (wd (Q * 2 ^ (m - i)) 2 : Nat), .int .u64 (wd (Q * 2 ^ (m - i)) 3 : Nat)] ∧ At wr gr 24 #[.int .u64 0, .int .u64 0, .int .u64 0, .int .u64 0] ∧ Below w.heap.size w wr ∧ r < B ∧ wide R A / 2 ^ (m - i) = Q * B + r)) (fun s _ => m - (intOf s).toNat)
  case atStart =>
    refine ⟨0, 0, h, by omega, rfl, ⟨Fa.out, Fby.out, Frs.out, ?_, Fr.out, BW.out, hhB, by rw [Nat.sub_zero, ← HH.out]; simp⟩⟩
    have e : ∀ k, wd (0 * 2 ^ (m - 0)) k = 0 := fun k => by simp [wd]
    rw [e, e, e, e]; exact Fq.out
  case round =>
    obtain ⟨i, Q, r, hi, rfl, hM⟩ := hrel
    clear Fa Fby Frs Fq Fr BW
    by_cases hlt : i < m
    · obtain ⟨p, hp⟩ : ∃ p, m = i + 1 + p := ⟨m - i - 1, by omega⟩
      obtain ⟨bb, hbb⟩ : ∃ bb, bt A (p : Int) = bb := ⟨_, rfl⟩
      have CBit := bit_any A hA (p : Int)
      have hb1 : bb ≤ 1 := by rw [← hbb]; unfold bt; split <;> omega
      rw [hbb] at CBit
      obtain ⟨L, t, hL, ht, hst, CST⟩ := step_ex r B bb hM.out.2.2.2.2.2.2.1 hB hb1
      have ABit := Lib.hid CBit; have AST := Lib.hid CST; have HST := Lib.hid hst; have HBB := Lib.hid hbb; have HP := Lib.hid hp
      have gp : (m : Int) - 1 - (i : Int) = (p : Nat) := by omega
      have hi256 : i ≤ 255 := by omega
      have hp256 : p ≤ 255 := by omega
      clear CBit CST hst hbb hp
      have Fa := Lib.hid hM.out.1; have Fby := Lib.hid hM.out.2.1; have Frs := Lib.hid hM.out.2.2.1; have Fq := Lib.hid hM.out.2.2.2.1; have Fr := Lib.hid hM.out.2.2.2.2.1; have BW := Lib.hid hM.out.2.2.2.2.2.1; have HV := Lib.hid hM.out.2.2.2.2.2.2.2; have HRB := Lib.hid hM.out.2.2.2.2.2.2.1
      clear hM
      go_wp2_with fail
      try simp only [List.append_eq, List.cons_append, List.nil_append]
      refine wp_region_noPanic ?_
      refine wp_region_held_drew (S := fun w' => True) (by kernel_rfl) (trivial) (fun _ => ?_)
      refine wpAnyH_cores (fuel := 2) (⟨0, 45, [], Kind.val (.agg #[.int .u64 (wd r 0 : Nat), .int .u64 (wd r 1 : Nat), .int .u64 (wd r 2 : Nat), .int .u64 (wd r 3 : Nat)]), false⟩ :: ⟨1, 46, [], Kind.val (.agg #[.int .u64 (wd B 0 : Nat), .int .u64 (wd B 1 : Nat), .int .u64 (wd B 2 : Nat), .int .u64 (wd B 3 : Nat)]), false⟩ :: ⟨2, 47, [], Kind.val (.agg #[.int .u64 (wd A 0 : Nat), .int .u64 (wd A 1 : Nat), .int .u64 (wd A 2 : Nat), .int .u64 (wd A 3 : Nat)]), false⟩ :: ⟨3, 48, [], Kind.val (.int .i64 (p : Nat)), true⟩ :: ⟨4, 49, [2, 3], Kind.val (.int .u64 (bb : Nat)), false⟩ :: ⟨5, 50, [0, 1, 4], Kind.val (.tuple #[.agg #[.int .u64 (wd L 0 : Nat), .int .u64 (wd L 1 : Nat), .int .u64 (wd L 2 : Nat), .int .u64 (wd L 3 : Nat)], .int .u64 (t : Nat)]), false⟩ :: ⟨6, 44, [5], Kind.val (.tuple #[.agg #[.int .u64 (wd L 0 : Nat), .int .u64 (wd L 1 : Nat), .int .u64 (wd L 2 : Nat), .int .u64 (wd L 3 : Nat)], .int .u64 (t : Nat)]), true⟩ :: ⟨7, 51, [6], Kind.val (.agg #[.int .u64 (wd L 0 : Nat), .int .u64 (wd L 1 : Nat), .int .u64 (wd L 2 : Nat), .int .u64 (wd L 3 : Nat)]), true⟩ :: ⟨8, 52, [6], Kind.val (.int .u64 (t : Nat)), true⟩ :: []) _ _ wr _ ?_ ?_ ?_ ?_ ?_ ?_ ?_ ?_ ?_ ?_ ?_
      · rfl
      · kernel_rfl
      · exact of_decide_eq_true rfl
      · exact all_cons ⟨_, rfl, rfl⟩ (all_cons ⟨_, rfl, rfl⟩ (all_cons ⟨_, rfl, rfl⟩ (all_cons ⟨_, rfl, rfl⟩ (all_cons ⟨_, rfl, rfl⟩ (all_cons ⟨_, rfl, rfl⟩ (all_cons ⟨_, rfl, rfl⟩ (all_cons ⟨_, rfl, rfl⟩ (all_cons ⟨_, rfl, rfl⟩ (all_nil)))))))))
      · exact fun _ hb => trivial
      · exact (Below.refl _ _).drew
      · kernel_rfl
      · exact fun _ _ _ _ _ h => h
      · refine all_cons ?_ (all_cons ?_ (all_cons ?_ (all_cons ?_ (all_cons ?_ (all_cons ?_ (all_cons ?_ (all_cons ?_ (all_cons ?_ (all_nil)))))))))
        · exact core_pureAs _ (by rfl)
        · exact core_pureAs _ (by rfl)
        · exact core_pureAs _ (by rfl)
        · exact core_move _ _ _ _ _ _ (by rfl) (by rfl) (known_old 14 _ (of_decide_eq_true (by rfl)) (by rfl))
        · exact core_pureAs _ (by rfl)
        · exact core_pureAs _ (by rfl)
        · exact core_move _ _ _ _ _ _ (by rfl) (by rfl) (known_core 5 50 _ _ (of_decide_eq_true (by rfl)) (by rfl) (by rfl) (by rfl))
        · exact core_extract _ _ 0 _ _ _ _ _ (by rfl) (by rfl) (known_core 6 44 _ _ (of_decide_eq_true (by rfl)) (by rfl) (by rfl) (by rfl)) (by rfl)
        · exact core_extract _ _ 1 _ _ _ _ _ (by rfl) (by rfl) (known_core 6 44 _ _ (of_decide_eq_true (by rfl)) (by rfl) (by rfl) (by rfl)) (by rfl)
      · refine all_cons ?_ (all_cons ?_ (all_cons ?_ (all_cons ?_ (all_cons ?_ (all_cons ?_ (all_cons ?_ (all_cons ?_ (all_cons ?_ (all_nil)))))))))
        · exact fun _ => core_loadH _ _ _ _ _ grs _ _ _ _ (by rfl) (by rfl) (known_old 11 _ (of_decide_eq_true (by rfl)) (by rfl)) Frs.out
        · exact fun _ => core_loadH _ _ _ _ _ gby _ _ _ _ (by rfl) (by rfl) (known_old 12 _ (of_decide_eq_true (by rfl)) (by rfl)) Fby.out
        · exact fun _ => core_load _ _ _ _ _ ga _ _ _ _ (by rfl) (by rfl) (known_old 4 _ (of_decide_eq_true (by rfl)) (by rfl)) Fa.out
        · exact core_stepAs _ (by rfl)
        · exact fun _ => core_call _ 29 _ _ [.tmp 47, .tmp 48] _ _ _ _ _ _ (by rfl) Try.func29 (by kernel_rfl) (by rfl) (by rfl) (.cons (known_core 2 47 _ _ (of_decide_eq_true (by rfl)) (by rfl) (by rfl) (by rfl)) (.cons (known_core 3 48 _ _ (of_decide_eq_true (by rfl)) (by rfl) (by rfl) (by rfl)) .nil)) (ABit.out)
        · exact fun _ => core_call _ 59 _ _ [.tmp 45, .tmp 46, .tmp 49] _ _ _ _ _ _ (by rfl) Try.func59 (by kernel_rfl) (by rfl) (by rfl) (.cons (known_core 0 45 _ _ (of_decide_eq_true (by rfl)) (by rfl) (by rfl) (by rfl)) (.cons (known_core 1 46 _ _ (of_decide_eq_true (by rfl)) (by rfl) (by rfl) (by rfl)) (.cons (known_core 4 49 _ _ (of_decide_eq_true (by rfl)) (by rfl) (by rfl) (by rfl)) .nil))) (AST.out)
        · exact core_stepAs _ (by rfl)
        · exact core_stepAs _ (by rfl)
        · exact core_stepAs _ (by rfl)
      intro vs y5 hc
      obtain ⟨vv0, vv1, vv2, vv3, vv4, vv5, vv6, vv7, vv8, rfl⟩ := len9 vs hc.lv
      have qq0 : vv0 = .agg #[.int .u64 (wd r 0 : Nat), .int .u64 (wd r 1 : Nat), .int .u64 (wd r 2 : Nat), .int .u64 (wd r 3 : Nat)] := by obtain ⟨xx, hx, hy⟩ := hc.ok 0 _ rfl rfl; exact (Option.some.inj (show some vv0 = some xx from hx)).trans hy
      have qq1 : vv1 = .agg #[.int .u64 (wd B 0 : Nat), .int .u64 (wd B 1 : Nat), .int .u64 (wd B 2 : Nat), .int .u64 (wd B 3 : Nat)] := by obtain ⟨xx, hx, hy⟩ := hc.ok 1 _ rfl rfl; exact (Option.some.inj (show some vv1 = some xx from hx)).trans hy
      have qq2 : vv2 = .agg #[.int .u64 (wd A 0 : Nat), .int .u64 (wd A 1 : Nat), .int .u64 (wd A 2 : Nat), .int .u64 (wd A 3 : Nat)] := by obtain ⟨xx, hx, hy⟩ := hc.ok 2 _ rfl rfl; exact (Option.some.inj (show some vv2 = some xx from hx)).trans hy
      have qq3 : vv3 = .int .i64 (p : Nat) := by obtain ⟨xx, hx, hy⟩ := hc.ok 3 _ rfl rfl; exact (Option.some.inj (show some vv3 = some xx from hx)).trans hy
      have qq4 : vv4 = .int .u64 (bb : Nat) := by obtain ⟨xx, hx, hy⟩ := hc.ok 4 _ rfl rfl; exact (Option.some.inj (show some vv4 = some xx from hx)).trans hy
      have qq5 : vv5 = .tuple #[.agg #[.int .u64 (wd L 0 : Nat), .int .u64 (wd L 1 : Nat), .int .u64 (wd L 2 : Nat), .int .u64 (wd L 3 : Nat)], .int .u64 (t : Nat)] := by obtain ⟨xx, hx, hy⟩ := hc.ok 5 _ rfl rfl; exact (Option.some.inj (show some vv5 = some xx from hx)).trans hy
      have qq6 : vv6 = .tuple #[.agg #[.int .u64 (wd L 0 : Nat), .int .u64 (wd L 1 : Nat), .int .u64 (wd L 2 : Nat), .int .u64 (wd L 3 : Nat)], .int .u64 (t : Nat)] := by obtain ⟨xx, hx, hy⟩ := hc.ok 6 _ rfl rfl; exact (Option.some.inj (show some vv6 = some xx from hx)).trans hy
      have qq7 : vv7 = .agg #[.int .u64 (wd L 0 : Nat), .int .u64 (wd L 1 : Nat), .int .u64 (wd L 2 : Nat), .int .u64 (wd L 3 : Nat)] := by obtain ⟨xx, hx, hy⟩ := hc.ok 7 _ rfl rfl; exact (Option.some.inj (show some vv7 = some xx from hx)).trans hy
      have qq8 : vv8 = .int .u64 (t : Nat) := by obtain ⟨xx, hx, hy⟩ := hc.ok 8 _ rfl rfl; exact (Option.some.inj (show some vv8 = some xx from hx)).trans hy
      have BZ := hc.bel
      clear hc
      have Na := Fa.out.on BZ
      have Nby := Fby.out.on BZ
      have Nrs := Frs.out.on BZ
      have Nq := Fq.out.on BZ
      have Nr := Fr.out.on BZ
      have HSZ5 := BW.out.size
      have NB := bel_tr BW.out BZ
      clear BW BZ Fa Fby Frs Fq Fr
      subst qq0 qq1 qq2 qq3 qq4 qq5 qq6 qq7 qq8
      simp only [List.map_cons, List.map_nil, over, Act.put, List.setIfInBounds_toArray, List.set_cons_zero, List.set_cons_succ]
      have OLD := Nrs
      replace Na := put4_far Na Dars (.int .u64 (wd L 0 : Nat)) (.int .u64 (wd L 1 : Nat)) (.int .u64 (wd L 2 : Nat)) (.int .u64 (wd L 3 : Nat))
      replace Nby := put4_far Nby Drsby.symm (.int .u64 (wd L 0 : Nat)) (.int .u64 (wd L 1 : Nat)) (.int .u64 (wd L 2 : Nat)) (.int .u64 (wd L 3 : Nat))
      replace Nrs := put4_at Nrs (.int .u64 (wd L 0 : Nat)) (.int .u64 (wd L 1 : Nat)) (.int .u64 (wd L 2 : Nat)) (.int .u64 (wd L 3 : Nat))
      replace Nq := put4_far Nq Dqrs (.int .u64 (wd L 0 : Nat)) (.int .u64 (wd L 1 : Nat)) (.int .u64 (wd L 2 : Nat)) (.int .u64 (wd L 3 : Nat))
      replace Nr := put4_far Nr Drrs (.int .u64 (wd L 0 : Nat)) (.int .u64 (wd L 1 : Nat)) (.int .u64 (wd L 2 : Nat)) (.int .u64 (wd L 3 : Nat))
      replace NB := put4_below NB Ers (.int .u64 (wd L 0 : Nat)) (.int .u64 (wd L 1 : Nat)) (.int .u64 (wd L 2 : Nat)) (.int .u64 (wd L 3 : Nat))
      refine store_oneH (i := 9) _ _ _ _ _ grs _ _ _ _ _ _ _ _ (by kernel_rfl) (by rfl) (by rfl) (by rfl) OLD (trivial) ?_
      clear OLD
      generalize (put4 y5 grs (.int .u64 (wd L 0 : Nat)) (.int .u64 (wd L 1 : Nat)) (.int .u64 (wd L 2 : Nat)) (.int .u64 (wd L 3 : Nat))) = y5_9 at *
      refine assign_one (i := 10) _ 15 _ _ _ _ (by kernel_rfl) (by rfl) (by rfl) (trivial) ?_
      try simp only [Act.put, List.setIfInBounds_toArray, List.set_cons_zero, List.set_cons_succ]
      refine wpAnyH_done (by kernel_rfl) ?_ _
      refine NoPanic.normal ?_
      have Fa := Lib.hid Na
      have Fby := Lib.hid Nby
      have Frs := Lib.hid Nrs
      have Fq := Lib.hid Nq
      have Fr := Lib.hid Nr
      have BW := Lib.hid NB
      clear NB Na Nby Nrs Nq Nr
      clear HSZ5
      go_wp2_with fail
      obtain ⟨k, hk⟩ : ∃ k, k = p / 64 := ⟨_, rfl⟩
      obtain ⟨j, hj⟩ : ∃ j, j = p % 64 := ⟨_, rfl⟩
      obtain ⟨b1, b2, b3⟩ := bit_in Q p t ht k j hk hj
      have e1 : m - i = p + 1 := by have := HP.out; omega
      have NQ := Fq.out
      rw [e1] at NQ
      have gd : Int.tdiv (p : Int) 64 = (k : Nat) := by rw [Int.tdiv_eq_ediv_of_nonneg (by omega)]; omega
      have gd2 : (p : Int) / 64 = (k : Nat) := by omega
      have gm : Int.tmod (p : Int) 64 = (j : Nat) := by rw [Int.tmod_eq_emod_of_nonneg (by omega)]; omega
      have gm2 : (p : Int) % 64 = (j : Nat) := by omega
      have k0 : (0 : Int) ≤ (k : Int) := by omega
      have k4 : (k : Int) < 4 := by omega
      have k4n : k < 4 := by omega
      have j0 : (0 : Int) ≤ (j : Int) := by omega
      have j64 : (j : Int) < 64 := by omega
      have z64 : (64 : Int) ≠ 0 := by omega
      have gw : IntKind.i64.wrap ((k : Nat) : Int) = (k : Nat) := by rw [IntKind.wrap_i64]; omega
      have gwj : IntKind.i64.wrap ((j : Nat) : Int) = (j : Nat) := by rw [IntKind.wrap_i64]; omega
      have cq : y5_9.drew.cell? ⟨gq, k, none⟩ = some (.int .u64 (wd (Q * 2 ^ (p + 1)) k : Nat)) := by
        rw [NQ.drew.cell]
        match k, k4n with
        | 0, _ | 1, _ | 2, _ | 3, _ => rfl
      have fq : y5_9.drew.frozen? ⟨gq, k, none⟩ = false := NQ.drew.frozen k
      have gs : IntKind.u64.wrap ((t : Int) * 2 ^ j) = ((t * 2 ^ j : Nat) : Int) := by rw [show (t : Int) * 2 ^ j = ((t * 2 ^ j : Nat) : Int) by simp, IntKind.wrap_u64]; omega
      have go : bits .or .u64 ((wd (Q * 2 ^ (p + 1)) k : Nat) : Int) ((t * 2 ^ j : Nat) : Int) = ((wd ((2 * Q + t) * 2 ^ p) k : Nat) : Int) := by rw [bits_or_u64_nat _ _ (wd_lt _ _) b2, b1]
      have HB1 := Lib.hid b3; have HE1 := Lib.hid e1; have HKK := Lib.hid hk; have NQQ := Lib.hid NQ; have HB2 := Lib.hid b2
      clear b1 b3 e1 hk hj NQ b2
      generalize hX : wd (Q * 2 ^ (p + 1)) k = xq at *
      generalize hY : wd ((2 * Q + t) * 2 ^ p) k = yq at *
      generalize hZ : t * 2 ^ j = zq at *
      have HX := Lib.hid hX; have HY := Lib.hid hY; have HZ := Lib.hid hZ
      clear hX hY hZ
      refine wp_region_still_tail 10 (by kernel_rfl) (by kernel_rfl) ?_
      simp only [List.take_succ_cons, List.take_zero, List.drop_succ_cons, List.drop_zero]
      change wpStill _ _ y5_9.drew (fun a' => wpList _ _ _ _ a' y5_9.drew) _ _
      obtain ⟨wj, hwj⟩ : ∃ wj, y5_9.drew = wj := ⟨_, rfl⟩
      have hwj' := Lib.hid hwj
      rw [hwj] at cq fq ⊢
      clear hwj
      repeat still_step
      refine wpStill_nil ?_
      go_wp2
      go_roundw
      case rel =>
        have hp := HP.out
        have e2 : m - (i + 1) = p := by omega
        (repeat apply Exists.intro)
        refine ⟨⟨i + 1, 2 * Q + t, L, by omega, ?_, ?_⟩, rfl⟩
        · go_num
        rw [e2, ← hwj'.out]
        have hne : gq ≠ ga ∧ gq ≠ gby ∧ gq ≠ grs ∧ gq ≠ gr := ⟨by first | exact Daq.symm | exact Dqa, by first | exact Dqby | exact Dbyq.symm, by first | exact Dqrs | exact Drsq.symm, by first | exact Dqr | exact Drq.symm⟩
        refine ⟨Fa.out.drew.far (by exact hne.1) _, Fby.out.drew.far (by exact hne.2.1) _, Frs.out.drew.far (by exact hne.2.2.1) _, ?_, Fr.out.drew.far (by exact hne.2.2.2) _, BW.out.drew.setCell Eq _, hL, ?_⟩
        · have := NQQ.out.drew.set k (.int .u64 (yq : Nat))
          rw [set_cell _ ((2 * Q + t) * 2 ^ p) k yq k4n HY.out.symm HB1.out] at this
          exact this
        · have hv := HV.out
          rw [HE1.out] at hv
          exact beh_round R A B p Q r L t (by omega) hv (by rw [HBB.out]; exact HST.out)
      case measure => simp [intOf]; omega
    · obtain rfl : i = m := by omega
      have Fa := Lib.hid hM.out.1; have Fby := Lib.hid hM.out.2.1; have Frs := Lib.hid hM.out.2.2.1; have NQ := hM.out.2.2.2.1; have Fr := Lib.hid hM.out.2.2.2.2.1; have BW := Lib.hid hM.out.2.2.2.2.2.1; have HV := Lib.hid hM.out.2.2.2.2.2.2.2; have HRB := Lib.hid hM.out.2.2.2.2.2.2.1
      clear hM
      rw [Nat.sub_self, Nat.pow_zero, Nat.mul_one] at NQ
      have Fq := Lib.hid NQ
      clear NQ
      go_wp2_with fail
      try simp only [List.append_eq, List.cons_append, List.nil_append]
      refine wp_region_noPanic ?_
      refine wp_region_held_drew (S := fun w' => True) (by kernel_rfl) (trivial) (fun _ => ?_)
      refine wpAnyH_cores (fuel := 2) (⟨0, 64, [], Kind.val (.agg #[.int .u64 (wd Q 0 : Nat), .int .u64 (wd Q 1 : Nat), .int .u64 (wd Q 2 : Nat), .int .u64 (wd Q 3 : Nat)]), false⟩ :: ⟨1, 65, [], Kind.val (.agg #[.int .u64 (wd r 0 : Nat), .int .u64 (wd r 1 : Nat), .int .u64 (wd r 2 : Nat), .int .u64 (wd r 3 : Nat)]), false⟩ :: ⟨2, 66, [1], Kind.val (.agg #[.int .u64 (wd r 0 : Nat), .int .u64 (wd r 1 : Nat), .int .u64 (wd r 2 : Nat), .int .u64 (wd r 3 : Nat)]), false⟩ :: []) _ _ wr _ ?_ ?_ ?_ ?_ ?_ ?_ ?_ ?_ ?_ ?_ ?_
      · rfl
      · kernel_rfl
      · exact of_decide_eq_true rfl
      · exact all_cons ⟨_, rfl, rfl⟩ (all_cons ⟨_, rfl, rfl⟩ (all_cons ⟨_, rfl, rfl⟩ (all_nil)))
      · exact fun _ hb => trivial
      · exact (Below.refl _ _).drew
      · kernel_rfl
      · exact fun _ _ _ _ _ h => h
      · refine all_cons ?_ (all_cons ?_ (all_cons ?_ (all_nil)))
        · exact core_pureAs _ (by rfl)
        · exact core_pureAs _ (by rfl)
        · exact core_pureAs _ (by rfl)
      · refine all_cons ?_ (all_cons ?_ (all_cons ?_ (all_nil)))
        · exact fun _ => core_load _ _ _ _ _ gq _ _ _ _ (by rfl) (by rfl) (known_old 6 _ (of_decide_eq_true (by rfl)) (by rfl)) Fq.out
        · exact fun _ => core_loadH _ _ _ _ _ grs _ _ _ _ (by rfl) (by rfl) (known_old 11 _ (of_decide_eq_true (by rfl)) (by rfl)) Frs.out
        · exact fun _ => core_call _ 60 _ _ [.tmp 65] _ _ _ _ _ _ (by rfl) Try.func60 (by kernel_rfl) (by rfl) (by rfl) (.cons (known_core 1 65 _ _ (of_decide_eq_true (by rfl)) (by rfl) (by rfl) (by rfl)) .nil) (hnum_any r)
      intro vs y6 hc
      obtain ⟨vv0, vv1, vv2, rfl⟩ := len3 vs hc.lv
      have qq0 : vv0 = .agg #[.int .u64 (wd Q 0 : Nat), .int .u64 (wd Q 1 : Nat), .int .u64 (wd Q 2 : Nat), .int .u64 (wd Q 3 : Nat)] := by obtain ⟨xx, hx, hy⟩ := hc.ok 0 _ rfl rfl; exact (Option.some.inj (show some vv0 = some xx from hx)).trans hy
      have qq1 : vv1 = .agg #[.int .u64 (wd r 0 : Nat), .int .u64 (wd r 1 : Nat), .int .u64 (wd r 2 : Nat), .int .u64 (wd r 3 : Nat)] := by obtain ⟨xx, hx, hy⟩ := hc.ok 1 _ rfl rfl; exact (Option.some.inj (show some vv1 = some xx from hx)).trans hy
      have qq2 : vv2 = .agg #[.int .u64 (wd r 0 : Nat), .int .u64 (wd r 1 : Nat), .int .u64 (wd r 2 : Nat), .int .u64 (wd r 3 : Nat)] := by obtain ⟨xx, hx, hy⟩ := hc.ok 2 _ rfl rfl; exact (Option.some.inj (show some vv2 = some xx from hx)).trans hy
      have BZ := hc.bel
      clear hc
      have Na := Fa.out.on BZ
      have Nby := Fby.out.on BZ
      have Nrs := Frs.out.on BZ
      have Nq := Fq.out.on BZ
      have Nr := Fr.out.on BZ
      have HSZ6 := BW.out.size
      have NB := bel_tr BW.out BZ
      clear BW BZ Fa Fby Frs Fq Fr
      subst qq0 qq1 qq2
      simp only [List.map_cons, List.map_nil, over, Act.put, List.setIfInBounds_toArray, List.set_cons_zero, List.set_cons_succ]
      have OLD := Nq
      replace Na := put4_far Na Daq (.int .u64 (wd Q 0 : Nat)) (.int .u64 (wd Q 1 : Nat)) (.int .u64 (wd Q 2 : Nat)) (.int .u64 (wd Q 3 : Nat))
      replace Nby := put4_far Nby Dqby.symm (.int .u64 (wd Q 0 : Nat)) (.int .u64 (wd Q 1 : Nat)) (.int .u64 (wd Q 2 : Nat)) (.int .u64 (wd Q 3 : Nat))
      replace Nrs := put4_far Nrs Dqrs.symm (.int .u64 (wd Q 0 : Nat)) (.int .u64 (wd Q 1 : Nat)) (.int .u64 (wd Q 2 : Nat)) (.int .u64 (wd Q 3 : Nat))
      replace Nq := put4_at Nq (.int .u64 (wd Q 0 : Nat)) (.int .u64 (wd Q 1 : Nat)) (.int .u64 (wd Q 2 : Nat)) (.int .u64 (wd Q 3 : Nat))
      replace Nr := put4_far Nr Dqr.symm (.int .u64 (wd Q 0 : Nat)) (.int .u64 (wd Q 1 : Nat)) (.int .u64 (wd Q 2 : Nat)) (.int .u64 (wd Q 3 : Nat))
      replace NB := put4_below NB Eq (.int .u64 (wd Q 0 : Nat)) (.int .u64 (wd Q 1 : Nat)) (.int .u64 (wd Q 2 : Nat)) (.int .u64 (wd Q 3 : Nat))
      refine store_one (i := 3) _ _ _ _ _ gq _ _ _ _ _ _ _ _ (by kernel_rfl) (by rfl) (by rfl) (by rfl) OLD (trivial) ?_
      clear OLD
      generalize (put4 y6 gq (.int .u64 (wd Q 0 : Nat)) (.int .u64 (wd Q 1 : Nat)) (.int .u64 (wd Q 2 : Nat)) (.int .u64 (wd Q 3 : Nat))) = y6_3 at *
      have OLD := Nr
      replace Na := put4_far Na Dar (.int .u64 (wd r 0 : Nat)) (.int .u64 (wd r 1 : Nat)) (.int .u64 (wd r 2 : Nat)) (.int .u64 (wd r 3 : Nat))
      replace Nby := put4_far Nby Drby.symm (.int .u64 (wd r 0 : Nat)) (.int .u64 (wd r 1 : Nat)) (.int .u64 (wd r 2 : Nat)) (.int .u64 (wd r 3 : Nat))
      replace Nrs := put4_far Nrs Drrs.symm (.int .u64 (wd r 0 : Nat)) (.int .u64 (wd r 1 : Nat)) (.int .u64 (wd r 2 : Nat)) (.int .u64 (wd r 3 : Nat))
      replace Nq := put4_far Nq Dqr (.int .u64 (wd r 0 : Nat)) (.int .u64 (wd r 1 : Nat)) (.int .u64 (wd r 2 : Nat)) (.int .u64 (wd r 3 : Nat))
      replace Nr := put4_at Nr (.int .u64 (wd r 0 : Nat)) (.int .u64 (wd r 1 : Nat)) (.int .u64 (wd r 2 : Nat)) (.int .u64 (wd r 3 : Nat))
      replace NB := put4_below NB Er (.int .u64 (wd r 0 : Nat)) (.int .u64 (wd r 1 : Nat)) (.int .u64 (wd r 2 : Nat)) (.int .u64 (wd r 3 : Nat))
      refine store_one (i := 4) _ _ _ _ _ gr _ _ _ _ _ _ _ _ (by kernel_rfl) (by rfl) (by rfl) (by rfl) OLD (trivial) ?_
      clear OLD
      generalize (put4 y6_3 gr (.int .u64 (wd r 0 : Nat)) (.int .u64 (wd r 1 : Nat)) (.int .u64 (wd r 2 : Nat)) (.int .u64 (wd r 3 : Nat))) = y6_4 at *
      refine wpAnyH_done (by kernel_rfl) ?_ _
      refine NoPanic.normal ?_
      have Fa := Lib.hid Na
      have Fby := Lib.hid Nby
      have Frs := Lib.hid Nrs
      have Fq := Lib.hid Nq
      have Fr := Lib.hid Nr
      have BW := Lib.hid NB
      clear NB Na Nby Nrs Nq Nr
      clear HSZ6
      have Lq := Fq.out.lt
      have cq0 : y6_4.cell? ⟨gq, 0, none⟩ = some (.int .u64 (wd Q 0 : Nat)) := Fq.out.cell 0
      have cq1 : y6_4.cell? ⟨gq, 1, none⟩ = some (.int .u64 (wd Q 1 : Nat)) := Fq.out.cell 1
      have cq2 : y6_4.cell? ⟨gq, 2, none⟩ = some (.int .u64 (wd Q 2 : Nat)) := Fq.out.cell 2
      have cq3 : y6_4.cell? ⟨gq, 3, none⟩ = some (.int .u64 (wd Q 3 : Nat)) := Fq.out.cell 3
      have Lr := Fr.out.lt
      have cr0 : y6_4.cell? ⟨gr, 0, none⟩ = some (.int .u64 (wd r 0 : Nat)) := Fr.out.cell 0
      have cr1 : y6_4.cell? ⟨gr, 1, none⟩ = some (.int .u64 (wd r 1 : Nat)) := Fr.out.cell 1
      have cr2 : y6_4.cell? ⟨gr, 2, none⟩ = some (.int .u64 (wd r 2 : Nat)) := Fr.out.cell 2
      have cr3 : y6_4.cell? ⟨gr, 3, none⟩ = some (.int .u64 (wd r 3 : Nat)) := Fr.out.cell 3
      have fq0 : y6_4.frozen? ⟨gq, 0, none⟩ = false := Fq.out.frozen 0
      have fq1 : y6_4.frozen? ⟨gq, 1, none⟩ = false := Fq.out.frozen 1
      have fq2 : y6_4.frozen? ⟨gq, 2, none⟩ = false := Fq.out.frozen 2
      have fq3 : y6_4.frozen? ⟨gq, 3, none⟩ = false := Fq.out.frozen 3
      have fr0 : y6_4.frozen? ⟨gr, 0, none⟩ = false := Fr.out.frozen 0
      have fr1 : y6_4.frozen? ⟨gr, 1, none⟩ = false := Fr.out.frozen 1
      have fr2 : y6_4.frozen? ⟨gr, 2, none⟩ = false := Fr.out.frozen 2
      have fr3 : y6_4.frozen? ⟨gr, 3, none⟩ = false := Fr.out.frozen 3
      go_wp2_with fail
      have HV2 := HV.out
      rw [Nat.sub_self, Nat.pow_zero, Nat.div_one] at HV2
      have HV3 := Lib.hid HV2
      clear HV2
      refine bodyPost_ret (v := .tuple #[num Q, num r]) (by simp [results, Try.results54, go_sem, *]) rfl ⟨Q, r, ⟨HV3.out, HRB.out⟩, rfl, BW.out⟩

/-- divides.behind -/
theorem behind_ex (R A B : Nat) (hR : R < B) (hA : A < 2 ^ 256) (hB : B < 2 ^ 256) : ∃ Q r : Nat, Q < 2 ^ 256 ∧ r < B ∧ wide R A = Q * B + r ∧
    ∀ w, Calls Try.prog 54 #[num R, num A, num B] w fun e w' => e = .returned (.tuple #[num Q, num r]) ∧ Below w.heap.size w w' := by
  obtain ⟨S, c, hS, hc, he, C⟩ := add_ex (shN R (256 - (undN R A B : Int))) (shN A (-(undN R A B : Int))) (sh_lt R (by omega) _) (sh_lt A hA _)
  have h1 := und_ahead R A B hR hB hA _ rfl
  have h2 := und_top R A B hR hA
  rw [h1] at he
  have hc0 : c = 0 := by omega
  subst hc0
  have hw := behind_walk R A B hR hA hB (undN R A B) S rfl (und_le R A B) (by omega) (by omega) C
  have hB0 : 0 < B := by omega
  have hq : wide R A / B < 2 ^ 256 := by
    refine Nat.div_lt_of_lt_mul ?_
    unfold wide
    have : (R + 1) * 2 ^ 256 ≤ B * 2 ^ 256 := Nat.mul_le_mul_right _ hR
    rw [Nat.add_mul] at this; omega
  refine ⟨wide R A / B, wide R A % B, hq, Nat.mod_lt _ hB0, by rw [Nat.mul_comm]; exact (Nat.div_add_mod _ _).symm, fun w => (hw w).mono ?_⟩
  rintro e w' ⟨Q, r, ⟨h3, h4⟩, he, hb⟩
  have e1 : wide R A / B = Q := by rw [h3, Nat.mul_comm, Nat.mul_add_div hB0, Nat.div_eq_of_lt h4, Nat.add_zero]
  have e2 : wide R A % B = r := by rw [h3, Nat.mul_comm, Nat.mul_add_mod, Nat.mod_eq_of_lt h4]
  rw [e1, e2]
  exact ⟨he, hb⟩
end Go.Proofs.Ytfjploahkodekaa
