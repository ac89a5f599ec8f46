/-
  divides.Div.
-/
import Derived.Test.YtfjploahkodekaaMBehind
import Derived.Test.YtfjploahkodekaaMShort
namespace Go.Proofs.Ytfjploahkodekaa
set_option maxRecDepth 100000
open Go.RowKit
set_option linter.unusedSimpArgs false
set_option linter.unusedVariables false
attribute [local go_sem ↓] Go.wp_at_zero Go.wp_at_succ

theorem num_zero : num 0 = .agg #[.int .u64 0, .int .u64 0, .int .u64 0, .int .u64 0] := rfl
theorem eqZ (X : Nat) (hX : X < 2 ^ 256) (w : World) : (Op.equalIn 10000 24 (num X) (.agg #[.int .u64 0, .int .u64 0, .int .u64 0, .int .u64 0])).run Try.prog w = .ok (decide (X = 0)) w := by
  rw [← num_zero]; exact eqN X 0 hX (by decide) w

theorem div_zero (A : Nat) (w : World) : Calls Try.prog 50 #[num A, num 0] w fun e w' => e = .returned (.tuple #[num 0, num 0, .int .i64 1]) ∧ Below w.heap.size w w' := by
  have eq : ∀ w, (Op.equalIn 10000 24 (.agg #[.int .u64 0, .int .u64 0, .int .u64 0, .int .u64 0]) (.agg #[.int .u64 0, .int .u64 0, .int .u64 0, .int .u64 0])).run Try.prog w = .ok true w := fun w => by rw [← num_zero, eqN 0 0 (by decide) (by decide)]; rfl
  rw [num_zero]
  go_enter Try.func50, Try.ntmps50
  go_wp2_with (simp only [eq])
  refine bodyPost_ret (v := .tuple #[.agg #[.int .u64 0, .int .u64 0, .int .u64 0, .int .u64 0], .agg #[.int .u64 0, .int .u64 0, .int .u64 0, .int .u64 0], .int .i64 1]) (by simp [results, Try.results50, go_sem]) rfl ⟨rfl, ?_⟩
  repeat (first | exact Below.refl _ _ | refine gr_alloc ?_ _ | refine Below.setCell ?_ (by simp) _ | refine Below.setCell ?_ (by simp; omega) _ | refine Below.drew ?_ | refine bel_tr ?_ (by assumption))

set_option maxHeartbeats 1000000 in
theorem div_some (A B Q r : Nat) (hB : B < 2 ^ 256) (hB0 : B ≠ 0)
    (C : ∀ w, Calls Try.prog 54 #[num 0, num A, num B] w fun e w' => e = .returned (.tuple #[num Q, num r]) ∧ Below w.heap.size w w') (w : World) :
    Calls Try.prog 50 #[num A, num B] w fun e w' => e = .returned (.tuple #[num Q, num r, .int .i64 0]) ∧ Below w.heap.size w w' := by
  have eq : ∀ w, (Op.equalIn 10000 24 (num B) (.agg #[.int .u64 0, .int .u64 0, .int .u64 0, .int .u64 0])).run Try.prog w = .ok false w := fun w => by rw [eqZ B hB]; simp [hB0]
  rw [num_zero] at C
  have HC := Lib.hid C
  clear C hB hB0
  go_enter Try.func50, Try.ntmps50
  go_wp2_with (simp only [eq])
  have BW := Lib.hid (Below.refl w.heap.size w)
  generalize hW1 : ((((w.alloc (.cells #[.int .u64 (wd A 0 : Nat), .int .u64 (wd A 1 : Nat), .int .u64 (wd A 2 : Nat), .int .u64 (wd A 3 : Nat)] 24)).alloc (.cells #[.int .u64 (wd B 0 : Nat), .int .u64 (wd B 1 : Nat), .int .u64 (wd B 2 : Nat), .int .u64 (wd B 3 : Nat)] 24)).alloc (.cells #[.int .u64 0, .int .u64 0, .int .u64 0, .int .u64 0] 24)).alloc (.cells #[.int .u64 0, .int .u64 0, .int .u64 0, .int .u64 0] 24)) = W1 at *
  clear eq
  have Na : At W1 (w.heap.size) _ _ := at_of hW1 ((((At.at_ _ _ _ _ (by simp)).alloc _).alloc _).alloc _)
  have Nb : At W1 (w.heap.size + 1) _ _ := at_of hW1 (((At.at_ _ _ _ _ (by simp)).alloc _).alloc _)
  have Nq : At W1 (w.heap.size + 1 + 1) _ _ := at_of hW1 ((At.at_ _ _ _ _ (by simp)).alloc _)
  have Eq : w.heap.size ≤ w.heap.size + 1 + 1 := by have := BW.out.size; omega
  have Daq : w.heap.size ≠ w.heap.size + 1 + 1 := by omega
  have Dbq : w.heap.size + 1 ≠ w.heap.size + 1 + 1 := by omega
  have Nr : At W1 (w.heap.size + 1 + 1 + 1) _ _ := at_of hW1 (At.at_ _ _ _ _ (by simp))
  have Er : w.heap.size ≤ w.heap.size + 1 + 1 + 1 := by have := BW.out.size; omega
  have Dar : w.heap.size ≠ w.heap.size + 1 + 1 + 1 := by omega
  have Dbr : w.heap.size + 1 ≠ w.heap.size + 1 + 1 + 1 := by omega
  have Dqr : w.heap.size + 1 + 1 ≠ w.heap.size + 1 + 1 + 1 := by omega
  have NB := gr_of hW1 (gr_alloc (gr_alloc (gr_alloc (gr_alloc BW.out _) _) _) _)
  clear BW
  clear hW1
  generalize w.heap.size + 1 + 1 + 1 = gr at *
  generalize w.heap.size + 1 + 1 = gq at *
  generalize w.heap.size + 1 = gb at *
  obtain ⟨ga, hg0⟩ : ∃ g, g = w.heap.size := ⟨_, rfl⟩
  rw [← hg0] at Na ⊢
  rw [← hg0] at Daq Dar
  clear hg0
  have Fa := Lib.hid Na
  have Fb := Lib.hid Nb
  have Fq := Lib.hid Nq
  have Fr := Lib.hid Nr
  have BW := Lib.hid NB
  clear NB Na Nb Nq Nr
  refine (HC.out _).mono ?_
  rintro e v2 ⟨rfl, z2⟩
  have Na := Lib.hid (Fa.out.on z2)
  have Nb := Lib.hid (Fb.out.on z2)
  have Nq := Lib.hid (Fq.out.on z2)
  have Nr := Lib.hid (Fr.out.on z2)
  have NB := Lib.hid (bel_tr BW.out z2)
  clear BW z2 Fa Fb Fq Fr
  have Fa := Na
  have Fb := Nb
  have Fq := Nq
  have Fr := Nr
  have BW := NB
  clear NB Na Nb Nq Nr
  have Lq := Fq.out.lt
  have cq0 : v2.cell? ⟨gq, 0, none⟩ = some (.int .u64 0) := Fq.out.cell 0
  have cq1 : v2.cell? ⟨gq, 1, none⟩ = some (.int .u64 0) := Fq.out.cell 1
  have cq2 : v2.cell? ⟨gq, 2, none⟩ = some (.int .u64 0) := Fq.out.cell 2
  have cq3 : v2.cell? ⟨gq, 3, none⟩ = some (.int .u64 0) := Fq.out.cell 3
  have fq0 : v2.frozen? ⟨gq, 0, none⟩ = false := Fq.out.frozen 0
  have fq1 : v2.frozen? ⟨gq, 1, none⟩ = false := Fq.out.frozen 1
  have fq2 : v2.frozen? ⟨gq, 2, none⟩ = false := Fq.out.frozen 2
  have fq3 : v2.frozen? ⟨gq, 3, none⟩ = false := Fq.out.frozen 3
  have Lr := Fr.out.lt
  have cr0 : v2.cell? ⟨gr, 0, none⟩ = some (.int .u64 0) := Fr.out.cell 0
  have cr1 : v2.cell? ⟨gr, 1, none⟩ = some (.int .u64 0) := Fr.out.cell 1
  have cr2 : v2.cell? ⟨gr, 2, none⟩ = some (.int .u64 0) := Fr.out.cell 2
  have cr3 : v2.cell? ⟨gr, 3, none⟩ = some (.int .u64 0) := Fr.out.cell 3
  have fr0 : v2.frozen? ⟨gr, 0, none⟩ = false := Fr.out.frozen 0
  have fr1 : v2.frozen? ⟨gr, 1, none⟩ = false := Fr.out.frozen 1
  have fr2 : v2.frozen? ⟨gr, 2, none⟩ = false := Fr.out.frozen 2
  have fr3 : v2.frozen? ⟨gr, 3, none⟩ = false := Fr.out.frozen 3
  go_wp2_with fail
  generalize hW3 : ((((((((v2.setCell ⟨gq, 0, none⟩ (.int .u64 (wd Q 0 : Nat))).setCell ⟨gq, 1, none⟩ (.int .u64 (wd Q 1 : Nat))).setCell ⟨gq, 2, none⟩ (.int .u64 (wd Q 2 : Nat))).setCell ⟨gq, 3, none⟩ (.int .u64 (wd Q 3 : Nat))).setCell ⟨gr, 0, none⟩ (.int .u64 (wd r 0 : Nat))).setCell ⟨gr, 1, none⟩ (.int .u64 (wd r 1 : Nat))).setCell ⟨gr, 2, none⟩ (.int .u64 (wd r 2 : Nat))).setCell ⟨gr, 3, none⟩ (.int .u64 (wd r 3 : Nat))) = W3 at *
  clear Lq cq0 cq1 cq2 cq3 fq0 fq1 fq2 fq3 Lr cr0 cr1 cr2 cr3 fr0 fr1 fr2 fr3
  have Na_1 := at_of hW3 ((((Fa.out).far4 Daq _ _ _ _)).far4 Dar _ _ _ _)
  have Nb_1 := at_of hW3 ((((Fb.out).far4 Dbq _ _ _ _)).far4 Dbr _ _ _ _)
  have Nq_1 := at_of hW3 ((((Fq.out).put4 _ _ _ _)).far4 Dqr _ _ _ _)
  have Nr_1 := at_of hW3 ((((Fr.out).far4 Dqr.symm _ _ _ _)).put4 _ _ _ _)
  have NB_1 := gr_of hW3 ((((((((((BW.out).setCell Eq _).setCell Eq _).setCell Eq _).setCell Eq _)).setCell Er _).setCell Er _).setCell Er _).setCell Er _)
  have Na := Na_1
  have Nb := Nb_1
  have Nq := Nq_1
  have Nr := Nr_1
  have NB := NB_1
  clear BW Fa Fb Fq Fr Na_1 Nb_1 Nq_1 Nr_1 NB_1
  clear hW3
  have Fa := Lib.hid Na
  have Fb := Lib.hid Nb
  have Fq := Lib.hid Nq
  have Fr := Lib.hid Nr
  have BW := Lib.hid NB
  clear NB Na Nb Nq Nr
  try simp only [List.append_eq, List.cons_append, List.nil_append]
  refine wp_region_noPanic ?_
  refine wp_region_held_drew (S := fun w' => At w' gq 24 #[.int .u64 (wd Q 0 : Nat), .int .u64 (wd Q 1 : Nat), .int .u64 (wd Q 2 : Nat), .int .u64 (wd Q 3 : Nat)] ∧ At w' gr 24 #[.int .u64 (wd r 0 : Nat), .int .u64 (wd r 1 : Nat), .int .u64 (wd r 2 : Nat), .int .u64 (wd r 3 : Nat)]) (by kernel_rfl) (⟨Fq.out.drew, Fr.out.drew⟩) (fun _ => ?_)
  refine wpAnyH_cores (fuel := 3) (⟨0, 19, [], Kind.val (.agg #[.int .u64 (wd Q 0 : Nat), .int .u64 (wd Q 1 : Nat), .int .u64 (wd Q 2 : Nat), .int .u64 (wd Q 3 : Nat)]), true⟩ :: ⟨1, 20, [], Kind.val (.agg #[.int .u64 (wd r 0 : Nat), .int .u64 (wd r 1 : Nat), .int .u64 (wd r 2 : Nat), .int .u64 (wd r 3 : Nat)]), true⟩ :: []) _ _ W3 _ ?_ ?_ ?_ ?_ ?_ ?_ ?_ ?_ ?_ ?_ ?_
  · rfl
  · kernel_rfl
  · exact of_decide_eq_true rfl
  · exact all_cons ⟨_, rfl, rfl⟩ (all_cons ⟨_, rfl, rfl⟩ (all_nil))
  · exact fun _ hb => ⟨Fq.out.on hb, Fr.out.on hb⟩
  · exact (Below.refl _ _).drew
  · kernel_rfl
  · exact fun _ _ _ _ _ h => h
  · refine all_cons ?_ (all_cons ?_ (all_nil))
    · exact core_loadP _ _ _ _ _ gq _ _ _ _ (by rfl) (by rfl) (known_old 4 _ (of_decide_eq_true (by rfl)) (by rfl)) (fun _ hs => hs.1)
    · exact core_loadP _ _ _ _ _ gr _ _ _ _ (by rfl) (by rfl) (known_old 5 _ (of_decide_eq_true (by rfl)) (by rfl)) (fun _ hs => hs.2)
  · refine all_cons ?_ (all_cons ?_ (all_nil))
    · exact core_stepAs _ (by rfl)
    · exact core_stepAs _ (by rfl)
  intro vs y4 hc
  obtain ⟨vv0, vv1, rfl⟩ := len2 vs hc.lv
  have qq0 : vv0 = .agg #[.int .u64 (wd Q 0 : Nat), .int .u64 (wd Q 1 : Nat), .int .u64 (wd Q 2 : Nat), .int .u64 (wd Q 3 : Nat)] := by obtain ⟨xx, hx, hy⟩ := hc.ok 0 _ rfl rfl; exact (Option.some.inj (show some vv0 = some xx from hx)).trans hy
  have qq1 : vv1 = .agg #[.int .u64 (wd r 0 : Nat), .int .u64 (wd r 1 : Nat), .int .u64 (wd r 2 : Nat), .int .u64 (wd r 3 : Nat)] := by obtain ⟨xx, hx, hy⟩ := hc.ok 1 _ rfl rfl; exact (Option.some.inj (show some vv1 = some xx from hx)).trans hy
  have BZ := hc.bel
  clear hc
  have Na := Fa.out.on BZ
  have Nb := Fb.out.on BZ
  have Nq := Fq.out.on BZ
  have Nr := Fr.out.on BZ
  have HSZ4 := BW.out.size
  have NB := bel_tr BW.out BZ
  clear BW BZ Fa Fb Fq Fr
  subst qq0 qq1
  simp only [List.map_cons, List.map_nil, over, Act.put, List.setIfInBounds_toArray, List.set_cons_zero, List.set_cons_succ]
  have OLD := Nq
  replace Na := put4_far Na Daq (.int .u64 (wd Q 0 : Nat)) (.int .u64 (wd Q 1 : Nat)) (.int .u64 (wd Q 2 : Nat)) (.int .u64 (wd Q 3 : Nat))
  replace Nb := put4_far Nb Dbq (.int .u64 (wd Q 0 : Nat)) (.int .u64 (wd Q 1 : Nat)) (.int .u64 (wd Q 2 : Nat)) (.int .u64 (wd Q 3 : Nat))
  replace Nq := put4_at Nq (.int .u64 (wd Q 0 : Nat)) (.int .u64 (wd Q 1 : Nat)) (.int .u64 (wd Q 2 : Nat)) (.int .u64 (wd Q 3 : Nat))
  replace Nr := put4_far Nr Dqr.symm (.int .u64 (wd Q 0 : Nat)) (.int .u64 (wd Q 1 : Nat)) (.int .u64 (wd Q 2 : Nat)) (.int .u64 (wd Q 3 : Nat))
  replace NB := put4_below NB Eq (.int .u64 (wd Q 0 : Nat)) (.int .u64 (wd Q 1 : Nat)) (.int .u64 (wd Q 2 : Nat)) (.int .u64 (wd Q 3 : Nat))
  refine store_one (i := 2) _ _ _ _ _ gq _ _ _ _ _ _ _ _ (by kernel_rfl) (by rfl) (by rfl) (by rfl) OLD (⟨Nq, Nr⟩) ?_
  clear OLD
  generalize (put4 y4 gq (.int .u64 (wd Q 0 : Nat)) (.int .u64 (wd Q 1 : Nat)) (.int .u64 (wd Q 2 : Nat)) (.int .u64 (wd Q 3 : Nat))) = y4_2 at *
  have OLD := Nr
  replace Na := put4_far Na Dar (.int .u64 (wd r 0 : Nat)) (.int .u64 (wd r 1 : Nat)) (.int .u64 (wd r 2 : Nat)) (.int .u64 (wd r 3 : Nat))
  replace Nb := put4_far Nb Dbr (.int .u64 (wd r 0 : Nat)) (.int .u64 (wd r 1 : Nat)) (.int .u64 (wd r 2 : Nat)) (.int .u64 (wd r 3 : Nat))
  replace Nq := put4_far Nq Dqr (.int .u64 (wd r 0 : Nat)) (.int .u64 (wd r 1 : Nat)) (.int .u64 (wd r 2 : Nat)) (.int .u64 (wd r 3 : Nat))
  replace Nr := put4_at Nr (.int .u64 (wd r 0 : Nat)) (.int .u64 (wd r 1 : Nat)) (.int .u64 (wd r 2 : Nat)) (.int .u64 (wd r 3 : Nat))
  replace NB := put4_below NB Er (.int .u64 (wd r 0 : Nat)) (.int .u64 (wd r 1 : Nat)) (.int .u64 (wd r 2 : Nat)) (.int .u64 (wd r 3 : Nat))
  refine store_one (i := 3) _ _ _ _ _ gr _ _ _ _ _ _ _ _ (by kernel_rfl) (by rfl) (by rfl) (by rfl) OLD (⟨Nq, Nr⟩) ?_
  clear OLD
  generalize (put4 y4_2 gr (.int .u64 (wd r 0 : Nat)) (.int .u64 (wd r 1 : Nat)) (.int .u64 (wd r 2 : Nat)) (.int .u64 (wd r 3 : Nat))) = y4_3 at *
  refine assign_one (i := 4) _ 6 _ _ _ _ (by kernel_rfl) (by rfl) (by rfl) (⟨Nq, Nr⟩) ?_
  try simp only [Act.put, List.setIfInBounds_toArray, List.set_cons_zero, List.set_cons_succ]
  refine wpAnyH_done (by kernel_rfl) ?_ _
  refine NoPanic.normal ?_
  have Fa := Lib.hid Na
  have Fb := Lib.hid Nb
  have Fq := Lib.hid Nq
  have Fr := Lib.hid Nr
  have BW := Lib.hid NB
  clear NB Na Nb Nq Nr
  clear HSZ4
  have Lq := Fq.out.lt
  have cq0 := Fq.out.c0
  have cq1 := Fq.out.c1
  have cq2 := Fq.out.c2
  have cq3 := Fq.out.c3
  have Lr := Fr.out.lt
  have cr0 := Fr.out.c0
  have cr1 := Fr.out.c1
  have cr2 := Fr.out.c2
  have cr3 := Fr.out.c3
  go_wp2_with fail
  refine bodyPost_ret (v := .tuple #[num Q, num r, .int .i64 0]) (by simp [results, Try.results50, go_sem, *]) rfl ⟨rfl, BW.out⟩

/-- divides.Div -/
theorem div_ex (A B : Nat) (hA : A < 2 ^ 256) (hB : B < 2 ^ 256) (hB0 : B ≠ 0) : ∃ Q r : Nat, Q < 2 ^ 256 ∧ r < B ∧ A = Q * B + r ∧
    ∀ w, Calls Try.prog 50 #[num A, num B] w fun e w' => e = .returned (.tuple #[num Q, num r, .int .i64 0]) ∧ Below w.heap.size w w' := by
  obtain ⟨Q, r, hQ, hr, he, C⟩ := behind_ex 0 A B (by omega) hA hB
  exact ⟨Q, r, hQ, hr, by rw [← he]; simp [wide], fun w => div_some A B Q r hB hB0 C w⟩
end Go.Proofs.Ytfjploahkodekaa

/-
  divides.Wide.
-/
namespace Go.Proofs.Ytfjploahkodekaa
set_option maxRecDepth 100000
open Go.RowKit
set_option linter.unusedSimpArgs false
set_option linter.unusedVariables false
attribute [local go_sem ↓] Go.wp_at_zero Go.wp_at_succ

set_option maxHeartbeats 1000000 in
theorem wide_none (A R : Nat) (w : World) : Calls Try.prog 49 #[num A, num R, num 0] w fun e w' => e = .returned (.tuple #[num 0, .int .i64 1]) ∧ Below w.heap.size w w' := by
  have C := div_zero R
  rw [num_zero] at C ⊢
  have HC := Lib.hid C
  clear C
  go_enter Try.func49, Try.ntmps49
  go_wp2_with fail
  have BW := Lib.hid (Below.refl w.heap.size w)
  generalize hW1 : ((((w.alloc (.cells #[.int .u64 (wd A 0 : Nat), .int .u64 (wd A 1 : Nat), .int .u64 (wd A 2 : Nat), .int .u64 (wd A 3 : Nat)] 24)).alloc (.cells #[.int .u64 (wd R 0 : Nat), .int .u64 (wd R 1 : Nat), .int .u64 (wd R 2 : Nat), .int .u64 (wd R 3 : Nat)] 24)).alloc (.cells #[.int .u64 0, .int .u64 0, .int .u64 0, .int .u64 0] 24)).alloc (.cells #[.int .u64 0, .int .u64 0, .int .u64 0, .int .u64 0] 24)) = W1 at *
  have Na : At W1 (w.heap.size) _ _ := at_of hW1 ((((At.at_ _ _ _ _ (by simp)).alloc _).alloc _).alloc _)
  have Nh : At W1 (w.heap.size + 1) _ _ := at_of hW1 (((At.at_ _ _ _ _ (by simp)).alloc _).alloc _)
  have Nm : At W1 (w.heap.size + 1 + 1) _ _ := at_of hW1 ((At.at_ _ _ _ _ (by simp)).alloc _)
  have Nx : At W1 (w.heap.size + 1 + 1 + 1) _ _ := at_of hW1 (At.at_ _ _ _ _ (by simp))
  have Ex : w.heap.size ≤ w.heap.size + 1 + 1 + 1 := by have := BW.out.size; omega
  have Dax : w.heap.size ≠ w.heap.size + 1 + 1 + 1 := by omega
  have Dhx : w.heap.size + 1 ≠ w.heap.size + 1 + 1 + 1 := by omega
  have Dmx : w.heap.size + 1 + 1 ≠ w.heap.size + 1 + 1 + 1 := by omega
  have NB := gr_of hW1 (gr_alloc (gr_alloc (gr_alloc (gr_alloc BW.out _) _) _) _)
  clear BW
  clear hW1
  generalize w.heap.size + 1 + 1 + 1 = gx at *
  generalize w.heap.size + 1 + 1 = gm at *
  generalize w.heap.size + 1 = gh at *
  obtain ⟨ga, hg0⟩ : ∃ g, g = w.heap.size := ⟨_, rfl⟩
  rw [← hg0] at Na ⊢
  rw [← hg0] at Dax
  clear hg0
  have Fa := Lib.hid Na
  have Fh := Lib.hid Nh
  have Fm := Lib.hid Nm
  have Fx := Lib.hid Nx
  have BW := Lib.hid NB
  clear NB Na Nh Nm Nx
  refine (HC.out _).mono ?_
  rintro e v2 ⟨rfl, z2⟩
  have Na := Lib.hid (Fa.out.on z2)
  have Nh := Lib.hid (Fh.out.on z2)
  have Nm := Lib.hid (Fm.out.on z2)
  have Nx := Lib.hid (Fx.out.on z2)
  have NB := Lib.hid (bel_tr BW.out z2)
  clear BW z2 Fa Fh Fm Fx
  have Fa := Na
  have Fh := Nh
  have Fm := Nm
  have Fx := Nx
  have BW := NB
  clear NB Na Nh Nm Nx
  have Lx := Fx.out.lt
  have cx0 : v2.cell? ⟨gx, 0, none⟩ = some (.int .u64 0) := Fx.out.cell 0
  have cx1 : v2.cell? ⟨gx, 1, none⟩ = some (.int .u64 0) := Fx.out.cell 1
  have cx2 : v2.cell? ⟨gx, 2, none⟩ = some (.int .u64 0) := Fx.out.cell 2
  have cx3 : v2.cell? ⟨gx, 3, none⟩ = some (.int .u64 0) := Fx.out.cell 3
  have fx0 : v2.frozen? ⟨gx, 0, none⟩ = false := Fx.out.frozen 0
  have fx1 : v2.frozen? ⟨gx, 1, none⟩ = false := Fx.out.frozen 1
  have fx2 : v2.frozen? ⟨gx, 2, none⟩ = false := Fx.out.frozen 2
  have fx3 : v2.frozen? ⟨gx, 3, none⟩ = false := Fx.out.frozen 3
  go_wp2_with fail
  generalize hW3 : ((((v2.setCell ⟨gx, 0, none⟩ (.int .u64 0)).setCell ⟨gx, 1, none⟩ (.int .u64 0)).setCell ⟨gx, 2, none⟩ (.int .u64 0)).setCell ⟨gx, 3, none⟩ (.int .u64 0)) = W3 at *
  clear Lx cx0 cx1 cx2 cx3 fx0 fx1 fx2 fx3
  have Na_0 := at_of hW3 ((Fa.out).far4 Dax _ _ _ _)
  have Nh_0 := at_of hW3 ((Fh.out).far4 Dhx _ _ _ _)
  have Nm_0 := at_of hW3 ((Fm.out).far4 Dmx _ _ _ _)
  have Nx_0 := at_of hW3 ((Fx.out).put4 _ _ _ _)
  have NB_0 := gr_of hW3 (((((BW.out).setCell Ex _).setCell Ex _).setCell Ex _).setCell Ex _)
  have Na := Na_0
  have Nh := Nh_0
  have Nm := Nm_0
  have Nx := Nx_0
  have NB := NB_0
  clear BW Fa Fh Fm Fx Na_0 Nh_0 Nm_0 Nx_0 NB_0
  clear hW3
  have Fa := Lib.hid Na
  have Fh := Lib.hid Nh
  have Fm := Lib.hid Nm
  have Fx := Lib.hid Nx
  have BW := Lib.hid NB
  generalize hW4 : ((W3.alloc (.cells #[.int .u64 0, .int .u64 0, .int .u64 0, .int .u64 0] 24)).alloc (.cells #[.int .u64 0, .int .u64 0, .int .u64 0, .int .u64 0] 24)) = W4 at *
  clear NB Na Nh Nm Nx
  have Nq : At W4 (W3.heap.size) _ _ := at_of hW4 ((At.at_ _ _ _ _ (by simp)).alloc _)
  have Dxq : gx ≠ W3.heap.size := by have := Fx.out.lt; omega
  have Ny : At W4 (W3.heap.size + 1) _ _ := at_of hW4 (At.at_ _ _ _ _ (by simp))
  have Dxy : gx ≠ W3.heap.size + 1 := by have := Fx.out.lt; omega
  have Na := at_of hW4 ((Fa.out.alloc _).alloc _)
  have Nh := at_of hW4 ((Fh.out.alloc _).alloc _)
  have Nm := at_of hW4 ((Fm.out.alloc _).alloc _)
  have Nx := at_of hW4 ((Fx.out.alloc _).alloc _)
  have NB := gr_of hW4 (gr_alloc (gr_alloc BW.out _) _)
  clear BW Fa Fh Fm Fx
  clear hW4
  generalize W3.heap.size + 1 = gy at *
  generalize W3.heap.size = gq at *
  have Fa := Lib.hid Na
  have Fh := Lib.hid Nh
  have Fm := Lib.hid Nm
  have Fx := Lib.hid Nx
  have Fq := Lib.hid Nq
  have Fy := Lib.hid Ny
  have BW := Lib.hid NB
  clear NB Na Nh Nm Nx Nq Ny
  clear Fa
  clear Fh
  clear Fm
  clear Fq
  clear Fy
  have Lx := Fx.out.lt
  have cx0 : W4.cell? ⟨gx, 0, none⟩ = some (.int .u64 0) := Fx.out.cell 0
  have cx1 : W4.cell? ⟨gx, 1, none⟩ = some (.int .u64 0) := Fx.out.cell 1
  have cx2 : W4.cell? ⟨gx, 2, none⟩ = some (.int .u64 0) := Fx.out.cell 2
  have cx3 : W4.cell? ⟨gx, 3, none⟩ = some (.int .u64 0) := Fx.out.cell 3
  refine bodyPost_ret (v := .tuple #[.agg #[.int .u64 0, .int .u64 0, .int .u64 0, .int .u64 0], .int .i64 1]) (by simp [results, Try.results49, go_sem, *]) rfl ⟨rfl, BW.out⟩

set_option maxHeartbeats 1000000 in
theorem wide_some (A R M Q y Q2 r : Nat)
    (C : ∀ w, Calls Try.prog 50 #[num R, num M] w fun e w' => e = .returned (.tuple #[num Q, num y, .int .i64 0]) ∧ Below w.heap.size w w')
    (D : ∀ w, Calls Try.prog 54 #[num y, num A, num M] w fun e w' => e = .returned (.tuple #[num Q2, num r]) ∧ Below w.heap.size w w') (w : World) :
    Calls Try.prog 49 #[num A, num R, num M] w fun e w' => e = .returned (.tuple #[num r, .int .i64 0]) ∧ Below w.heap.size w w' := by
  have HC := Lib.hid C
  have HD := Lib.hid D
  clear C D
  go_enter Try.func49, Try.ntmps49
  go_wp2_with fail
  have BW := Lib.hid (Below.refl w.heap.size w)
  generalize hW1 : ((((w.alloc (.cells #[.int .u64 (wd A 0 : Nat), .int .u64 (wd A 1 : Nat), .int .u64 (wd A 2 : Nat), .int .u64 (wd A 3 : Nat)] 24)).alloc (.cells #[.int .u64 (wd R 0 : Nat), .int .u64 (wd R 1 : Nat), .int .u64 (wd R 2 : Nat), .int .u64 (wd R 3 : Nat)] 24)).alloc (.cells #[.int .u64 (wd M 0 : Nat), .int .u64 (wd M 1 : Nat), .int .u64 (wd M 2 : Nat), .int .u64 (wd M 3 : Nat)] 24)).alloc (.cells #[.int .u64 0, .int .u64 0, .int .u64 0, .int .u64 0] 24)) = W1 at *
  have Na : At W1 (w.heap.size) _ _ := at_of hW1 ((((At.at_ _ _ _ _ (by simp)).alloc _).alloc _).alloc _)
  have Nh : At W1 (w.heap.size + 1) _ _ := at_of hW1 (((At.at_ _ _ _ _ (by simp)).alloc _).alloc _)
  have Nm : At W1 (w.heap.size + 1 + 1) _ _ := at_of hW1 ((At.at_ _ _ _ _ (by simp)).alloc _)
  have Nx : At W1 (w.heap.size + 1 + 1 + 1) _ _ := at_of hW1 (At.at_ _ _ _ _ (by simp))
  have Ex : w.heap.size ≤ w.heap.size + 1 + 1 + 1 := by have := BW.out.size; omega
  have Dax : w.heap.size ≠ w.heap.size + 1 + 1 + 1 := by omega
  have Dhx : w.heap.size + 1 ≠ w.heap.size + 1 + 1 + 1 := by omega
  have Dmx : w.heap.size + 1 + 1 ≠ w.heap.size + 1 + 1 + 1 := by omega
  have NB := gr_of hW1 (gr_alloc (gr_alloc (gr_alloc (gr_alloc BW.out _) _) _) _)
  clear BW
  clear hW1
  generalize w.heap.size + 1 + 1 + 1 = gx at *
  generalize w.heap.size + 1 + 1 = gm at *
  generalize w.heap.size + 1 = gh at *
  obtain ⟨ga, hg0⟩ : ∃ g, g = w.heap.size := ⟨_, rfl⟩
  rw [← hg0] at Na ⊢
  rw [← hg0] at Dax
  clear hg0
  have Fa := Lib.hid Na
  have Fh := Lib.hid Nh
  have Fm := Lib.hid Nm
  have Fx := Lib.hid Nx
  have BW := Lib.hid NB
  clear NB Na Nh Nm Nx
  refine (HC.out _).mono ?_
  rintro e v2 ⟨rfl, z2⟩
  have Na := Lib.hid (Fa.out.on z2)
  have Nh := Lib.hid (Fh.out.on z2)
  have Nm := Lib.hid (Fm.out.on z2)
  have Nx := Lib.hid (Fx.out.on z2)
  have NB := Lib.hid (bel_tr BW.out z2)
  clear BW z2 Fa Fh Fm Fx
  have Fa := Na
  have Fh := Nh
  have Fm := Nm
  have Fx := Nx
  have BW := NB
  clear NB Na Nh Nm Nx
  have La := Fa.out.lt
  have ca0 := Fa.out.c0
  have ca1 := Fa.out.c1
  have ca2 := Fa.out.c2
  have ca3 := Fa.out.c3
  have Lm := Fm.out.lt
  have cm0 := Fm.out.c0
  have cm1 := Fm.out.c1
  have cm2 := Fm.out.c2
  have cm3 := Fm.out.c3
  go_wp2_with fail
  generalize hW3 : ((v2.alloc (.cells #[.int .u64 (wd Q 0 : Nat), .int .u64 (wd Q 1 : Nat), .int .u64 (wd Q 2 : Nat), .int .u64 (wd Q 3 : Nat)] 24)).alloc (.cells #[.int .u64 (wd y 0 : Nat), .int .u64 (wd y 1 : Nat), .int .u64 (wd y 2 : Nat), .int .u64 (wd y 3 : Nat)] 24)) = W3 at *
  clear La ca0 ca1 ca2 ca3 Lm cm0 cm1 cm2 cm3
  have Nq : At W3 (v2.heap.size) _ _ := at_of hW3 ((At.at_ _ _ _ _ (by simp)).alloc _)
  have Dxq : gx ≠ v2.heap.size := by have := Fx.out.lt; omega
  have Ny : At W3 (v2.heap.size + 1) _ _ := at_of hW3 (At.at_ _ _ _ _ (by simp))
  have Ey : w.heap.size ≤ v2.heap.size + 1 := by have := BW.out.size; omega
  have Day : ga ≠ v2.heap.size + 1 := by have := Fa.out.lt; omega
  have Dhy : gh ≠ v2.heap.size + 1 := by have := Fh.out.lt; omega
  have Dmy : gm ≠ v2.heap.size + 1 := by have := Fm.out.lt; omega
  have Dxy : gx ≠ v2.heap.size + 1 := by have := Fx.out.lt; omega
  have Dqy : v2.heap.size ≠ v2.heap.size + 1 := by omega
  have Na := at_of hW3 ((Fa.out.alloc _).alloc _)
  have Nh := at_of hW3 ((Fh.out.alloc _).alloc _)
  have Nm := at_of hW3 ((Fm.out.alloc _).alloc _)
  have Nx := at_of hW3 ((Fx.out.alloc _).alloc _)
  have NB := gr_of hW3 (gr_alloc (gr_alloc BW.out _) _)
  clear BW Fa Fh Fm Fx
  clear hW3
  generalize v2.heap.size + 1 = gy at *
  generalize v2.heap.size = gq at *
  have Fa := Lib.hid Na
  have Fh := Lib.hid Nh
  have Fm := Lib.hid Nm
  have Fx := Lib.hid Nx
  have Fq := Lib.hid Nq
  have Fy := Lib.hid Ny
  have BW := Lib.hid NB
  clear NB Na Nh Nm Nx Nq Ny
  clear Fh
  clear Fq
  refine (HD.out _).mono ?_
  rintro e v4 ⟨rfl, z4⟩
  have Na := Lib.hid (Fa.out.on z4)
  have Nm := Lib.hid (Fm.out.on z4)
  have Nx := Lib.hid (Fx.out.on z4)
  have Ny := Lib.hid (Fy.out.on z4)
  have NB := Lib.hid (bel_tr BW.out z4)
  clear BW z4 Fa Fm Fx Fy
  have Fa := Na
  have Fm := Nm
  have Fx := Nx
  have Fy := Ny
  have BW := NB
  clear NB Na Nm Nx Ny
  clear Fa
  clear Fm
  have Ly := Fy.out.lt
  have cy0 := Fy.out.c0
  have cy1 := Fy.out.c1
  have cy2 := Fy.out.c2
  have cy3 := Fy.out.c3
  have fy0 : v4.frozen? ⟨gy, 0, none⟩ = false := Fy.out.frozen 0
  have fy1 : v4.frozen? ⟨gy, 1, none⟩ = false := Fy.out.frozen 1
  have fy2 : v4.frozen? ⟨gy, 2, none⟩ = false := Fy.out.frozen 2
  have fy3 : v4.frozen? ⟨gy, 3, none⟩ = false := Fy.out.frozen 3
  have Lx := Fx.out.lt
  have cx0 : v4.cell? ⟨gx, 0, none⟩ = some (.int .u64 0) := Fx.out.cell 0
  have cx1 : v4.cell? ⟨gx, 1, none⟩ = some (.int .u64 0) := Fx.out.cell 1
  have cx2 : v4.cell? ⟨gx, 2, none⟩ = some (.int .u64 0) := Fx.out.cell 2
  have cx3 : v4.cell? ⟨gx, 3, none⟩ = some (.int .u64 0) := Fx.out.cell 3
  have fx0 : v4.frozen? ⟨gx, 0, none⟩ = false := Fx.out.frozen 0
  have fx1 : v4.frozen? ⟨gx, 1, none⟩ = false := Fx.out.frozen 1
  have fx2 : v4.frozen? ⟨gx, 2, none⟩ = false := Fx.out.frozen 2
  have fx3 : v4.frozen? ⟨gx, 3, none⟩ = false := Fx.out.frozen 3
  go_wp2_with fail
  generalize hW5 : ((((((((v4.setCell ⟨gy, 0, none⟩ (.int .u64 (wd r 0 : Nat))).setCell ⟨gy, 1, none⟩ (.int .u64 (wd r 1 : Nat))).setCell ⟨gy, 2, none⟩ (.int .u64 (wd r 2 : Nat))).setCell ⟨gy, 3, none⟩ (.int .u64 (wd r 3 : Nat))).setCell ⟨gx, 0, none⟩ (.int .u64 (wd r 0 : Nat))).setCell ⟨gx, 1, none⟩ (.int .u64 (wd r 1 : Nat))).setCell ⟨gx, 2, none⟩ (.int .u64 (wd r 2 : Nat))).setCell ⟨gx, 3, none⟩ (.int .u64 (wd r 3 : Nat))) = W5 at *
  clear Ly cy0 cy1 cy2 cy3 fy0 fy1 fy2 fy3 Lx cx0 cx1 cx2 cx3 fx0 fx1 fx2 fx3
  have Nx_1 := at_of hW5 ((((Fx.out).far4 Dxy _ _ _ _)).put4 _ _ _ _)
  have Ny_1 := at_of hW5 ((((Fy.out).put4 _ _ _ _)).far4 Dxy.symm _ _ _ _)
  have NB_1 := gr_of hW5 ((((((((((BW.out).setCell Ey _).setCell Ey _).setCell Ey _).setCell Ey _)).setCell Ex _).setCell Ex _).setCell Ex _).setCell Ex _)
  have Nx := Nx_1
  have Ny := Ny_1
  have NB := NB_1
  clear BW Fx Fy Nx_1 Ny_1 NB_1
  clear hW5
  have Fx := Lib.hid Nx
  have Fy := Lib.hid Ny
  have BW := Lib.hid NB
  clear NB Nx Ny
  have Lx := Fx.out.lt
  have cx0 := Fx.out.c0
  have cx1 := Fx.out.c1
  have cx2 := Fx.out.c2
  have cx3 := Fx.out.c3
  refine bodyPost_ret (v := .tuple #[num r, .int .i64 0]) (by simp [results, Try.results49, go_sem, *]) rfl ⟨rfl, BW.out⟩

/-- divides.Wide -/
theorem wide_ex (A R M : Nat) (hA : A < 2 ^ 256) (hR : R < 2 ^ 256) (hM : M < 2 ^ 256) (hM0 : M ≠ 0) : ∃ r : Nat, r < M ∧ r = wide R A % M ∧
    ∀ w, Calls Try.prog 49 #[num A, num R, num M] w fun e w' => e = .returned (.tuple #[num r, .int .i64 0]) ∧ Below w.heap.size w w' := by
  obtain ⟨Q, y, hQ, hy, he, C⟩ := div_ex R M hR hM hM0
  obtain ⟨Q2, r, hQ2, hr, he2, D⟩ := behind_ex y A M hy hA hM
  refine ⟨r, hr, ?_, fun w => wide_some A R M Q y Q2 r C D w⟩
  have : wide R A = (Q * 2 ^ 256 + Q2) * M + r := by
    unfold wide at he2 ⊢
    rw [he]
    generalize 2 ^ 256 = b at he2 ⊢
    rw [Nat.add_mul, Nat.add_mul, Nat.add_assoc, he2, ← Nat.add_assoc, Nat.mul_assoc Q M, Nat.mul_comm M b, ← Nat.mul_assoc]
  rw [this, Nat.mul_comm, Nat.mul_add_mod, Nat.mod_eq_of_lt hr]
end Go.Proofs.Ytfjploahkodekaa
