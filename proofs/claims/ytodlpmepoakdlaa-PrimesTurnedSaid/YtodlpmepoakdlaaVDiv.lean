/-
  divides.Div.
-/
import Derived.Test.YtodlpmepoakdlaaVBehind
import Derived.Test.YtodlpmepoakdlaaVSmall
namespace Go.Proofs.Ytodlpmepoakdlaa
set_option maxRecDepth 100000
open Go.RowKit
set_option linter.unusedSimpArgs false
set_option linter.unusedVariables false
attribute [local go_sem ↓] Go.wp_at_zero Go.wp_at_succ

theorem num_zero : num 0 = .agg #[.int .u64 0, .int .u64 0, .int .u64 0, .int .u64 0] := rfl
theorem eqZ (X : Nat) (hX : X < 2 ^ 256) (w : World) : (Op.equalIn 10000 24 (num X) (.agg #[.int .u64 0, .int .u64 0, .int .u64 0, .int .u64 0])).run Try.prog w = .ok (decide (X = 0)) w := by
  rw [← num_zero]; exact eqN X 0 hX (by decide) w

theorem div_zero (A : Nat) (w : World) : Calls Try.prog 73 #[num A, num 0] w fun e w' => e = .returned (.tuple #[num 0, num 0, .int .i64 1]) ∧ Below w.heap.size w w' := by
  have eq : ∀ w, (Op.equalIn 10000 24 (.agg #[.int .u64 0, .int .u64 0, .int .u64 0, .int .u64 0]) (.agg #[.int .u64 0, .int .u64 0, .int .u64 0, .int .u64 0])).run Try.prog w = .ok true w := fun w => by rw [← num_zero, eqN 0 0 (by decide) (by decide)]; rfl
  rw [num_zero]
  go_enter Try.func73, Try.ntmps73
  go_wp2_with (simp only [eq])
  refine bodyPost_ret (v := .tuple #[.agg #[.int .u64 0, .int .u64 0, .int .u64 0, .int .u64 0], .agg #[.int .u64 0, .int .u64 0, .int .u64 0, .int .u64 0], .int .i64 1]) (by simp [results, Try.results73, go_sem]) rfl ⟨rfl, ?_⟩
  repeat (first | exact Below.refl _ _ | refine gr_alloc ?_ _ | refine Below.setCell ?_ (by simp) _ | refine Below.setCell ?_ (by simp; omega) _ | refine Below.drew ?_ | refine bel_tr ?_ (by assumption))

set_option maxHeartbeats 1000000 in
theorem div_some (A B Q r : Nat) (hB : B < 2 ^ 256) (hB0 : B ≠ 0)
    (C : ∀ w, Calls Try.prog 84 #[num 0, num A, num B] w fun e w' => e = .returned (.tuple #[num Q, num r]) ∧ Below w.heap.size w w') (w : World) :
    Calls Try.prog 73 #[num A, num B] w fun e w' => e = .returned (.tuple #[num Q, num r, .int .i64 0]) ∧ Below w.heap.size w w' := by
  have eq : ∀ w, (Op.equalIn 10000 24 (num B) (.agg #[.int .u64 0, .int .u64 0, .int .u64 0, .int .u64 0])).run Try.prog w = .ok false w := fun w => by rw [eqZ B hB]; simp [hB0]
  rw [num_zero] at C
  have HC := Lib.hid C
  clear C hB hB0
  go_enter Try.func73, Try.ntmps73
  go_wp2_with (simp only [eq])
  have BW := Lib.hid (Below.refl w.heap.size w)
  generalize hW1 : ((((w.alloc (.cells #[.int .u64 (wd A 0 : Nat), .int .u64 (wd A 1 : Nat), .int .u64 (wd A 2 : Nat), .int .u64 (wd A 3 : Nat)] 24)).alloc (.cells #[.int .u64 (wd B 0 : Nat), .int .u64 (wd B 1 : Nat), .int .u64 (wd B 2 : Nat), .int .u64 (wd B 3 : Nat)] 24)).alloc (.cells #[.int .u64 0, .int .u64 0, .int .u64 0, .int .u64 0] 24)).alloc (.cells #[.int .u64 0, .int .u64 0, .int .u64 0, .int .u64 0] 24)) = W1 at *
  clear eq
  have Na : At W1 (w.heap.size) _ _ := at_of hW1 ((((At.at_ _ _ _ _ (by simp)).alloc _).alloc _).alloc _)
  have Nb : At W1 (w.heap.size + 1) _ _ := at_of hW1 (((At.at_ _ _ _ _ (by simp)).alloc _).alloc _)
  have Nq : At W1 (w.heap.size + 1 + 1) _ _ := at_of hW1 ((At.at_ _ _ _ _ (by simp)).alloc _)
  have Eq : w.heap.size ≤ w.heap.size + 1 + 1 := by have := BW.out.size; omega
  have Daq : w.heap.size ≠ w.heap.size + 1 + 1 := by omega
  have Dbq : w.heap.size + 1 ≠ w.heap.size + 1 + 1 := by omega
  have Nr : At W1 (w.heap.size + 1 + 1 + 1) _ _ := at_of hW1 (At.at_ _ _ _ _ (by simp))
  have Er : w.heap.size ≤ w.heap.size + 1 + 1 + 1 := by have := BW.out.size; omega
  have Dar : w.heap.size ≠ w.heap.size + 1 + 1 + 1 := by omega
  have Dbr : w.heap.size + 1 ≠ w.heap.size + 1 + 1 + 1 := by omega
  have Dqr : w.heap.size + 1 + 1 ≠ w.heap.size + 1 + 1 + 1 := by omega
  have NB := gr_of hW1 (gr_alloc (gr_alloc (gr_alloc (gr_alloc BW.out _) _) _) _)
  clear BW
  clear hW1
  generalize w.heap.size + 1 + 1 + 1 = gr at *
  generalize w.heap.size + 1 + 1 = gq at *
  generalize w.heap.size + 1 = gb at *
  obtain ⟨ga, hg0⟩ : ∃ g, g = w.heap.size := ⟨_, rfl⟩
  rw [← hg0] at Na ⊢
  rw [← hg0] at Daq Dar
  clear hg0
  have Fa := Lib.hid Na
  have Fb := Lib.hid Nb
  have Fq := Lib.hid Nq
  have Fr := Lib.hid Nr
  have BW := Lib.hid NB
  clear NB Na Nb Nq Nr
  refine (HC.out _).mono ?_
  rintro e v2 ⟨rfl, z2⟩
  have Na := Lib.hid (Fa.out.on z2)
  have Nb := Lib.hid (Fb.out.on z2)
  have Nq := Lib.hid (Fq.out.on z2)
  have Nr := Lib.hid (Fr.out.on z2)
  have NB := Lib.hid (bel_tr BW.out z2)
  clear BW z2 Fa Fb Fq Fr
  have Fa := Na
  have Fb := Nb
  have Fq := Nq
  have Fr := Nr
  have BW := NB
  clear NB Na Nb Nq Nr
  have Lq := Fq.out.lt
  have cq0 : v2.cell? ⟨gq, 0, none⟩ = some (.int .u64 0) := Fq.out.cell 0
  have cq1 : v2.cell? ⟨gq, 1, none⟩ = some (.int .u64 0) := Fq.out.cell 1
  have cq2 : v2.cell? ⟨gq, 2, none⟩ = some (.int .u64 0) := Fq.out.cell 2
  have cq3 : v2.cell? ⟨gq, 3, none⟩ = some (.int .u64 0) := Fq.out.cell 3
  have fq0 : v2.frozen? ⟨gq, 0, none⟩ = false := Fq.out.frozen 0
  have fq1 : v2.frozen? ⟨gq, 1, none⟩ = false := Fq.out.frozen 1
  have fq2 : v2.frozen? ⟨gq, 2, none⟩ = false := Fq.out.frozen 2
  have fq3 : v2.frozen? ⟨gq, 3, none⟩ = false := Fq.out.frozen 3
  have Lr := Fr.out.lt
  have cr0 : v2.cell? ⟨gr, 0, none⟩ = some (.int .u64 0) := Fr.out.cell 0
  have cr1 : v2.cell? ⟨gr, 1, none⟩ = some (.int .u64 0) := Fr.out.cell 1
  have cr2 : v2.cell? ⟨gr, 2, none⟩ = some (.int .u64 0) := Fr.out.cell 2
  have cr3 : v2.cell? ⟨gr, 3, none⟩ = some (.int .u64 0) := Fr.out.cell 3
  have fr0 : v2.frozen? ⟨gr, 0, none⟩ = false := Fr.out.frozen 0
  have fr1 : v2.frozen? ⟨gr, 1, none⟩ = false := Fr.out.frozen 1
  have fr2 : v2.frozen? ⟨gr, 2, none⟩ = false := Fr.out.frozen 2
  have fr3 : v2.frozen? ⟨gr, 3, none⟩ = false := Fr.out.frozen 3
  go_wp2_with fail
  generalize hW3 : ((((((((v2.setCell ⟨gq, 0, none⟩ (.int .u64 (wd Q 0 : Nat))).setCell ⟨gq, 1, none⟩ (.int .u64 (wd Q 1 : Nat))).setCell ⟨gq, 2, none⟩ (.int .u64 (wd Q 2 : Nat))).setCell ⟨gq, 3, none⟩ (.int .u64 (wd Q 3 : Nat))).setCell ⟨gr, 0, none⟩ (.int .u64 (wd r 0 : Nat))).setCell ⟨gr, 1, none⟩ (.int .u64 (wd r 1 : Nat))).setCell ⟨gr, 2, none⟩ (.int .u64 (wd r 2 : Nat))).setCell ⟨gr, 3, none⟩ (.int .u64 (wd r 3 : Nat))) = W3 at *
  clear Lq cq0 cq1 cq2 cq3 fq0 fq1 fq2 fq3 Lr cr0 cr1 cr2 cr3 fr0 fr1 fr2 fr3
  have Na_1 := at_of hW3 ((((Fa.out).far4 Daq _ _ _ _)).far4 Dar _ _ _ _)
  have Nb_1 := at_of hW3 ((((Fb.out).far4 Dbq _ _ _ _)).far4 Dbr _ _ _ _)
  have Nq_1 := at_of hW3 ((((Fq.out).put4 _ _ _ _)).far4 Dqr _ _ _ _)
  have Nr_1 := at_of hW3 ((((Fr.out).far4 Dqr.symm _ _ _ _)).put4 _ _ _ _)
  have NB_1 := gr_of hW3 ((((((((((BW.out).setCell Eq _).setCell Eq _).setCell Eq _).setCell Eq _)).setCell Er _).setCell Er _).setCell Er _).setCell Er _)
  have Na := Na_1
  have Nb := Nb_1
  have Nq := Nq_1
  have Nr := Nr_1
  have NB := NB_1
  clear BW Fa Fb Fq Fr Na_1 Nb_1 Nq_1 Nr_1 NB_1
  clear hW3
  have Fa := Lib.hid Na
  have Fb := Lib.hid Nb
  have Fq := Lib.hid Nq
  have Fr := Lib.hid Nr
  have BW := Lib.hid NB
  clear NB Na Nb Nq Nr
  try simp only [List.append_eq, List.cons_append, List.nil_append]
  refine wp_region_noPanic ?_
  refine wp_region_held_drew (S := fun w' => At w' gq 24 #[.int .u64 (wd Q 0 : Nat), .int .u64 (wd Q 1 : Nat), .int .u64 (wd Q 2 : Nat), .int .u64 (wd Q 3 : Nat)] ∧ At w' gr 24 #[.int .u64 (wd r 0 : Nat), .int .u64 (wd r 1 : Nat), .int .u64 (wd r 2 : Nat), .int .u64 (wd r 3 : Nat)]) (by kernel_rfl) (⟨Fq.out.drew, Fr.out.drew⟩) (fun _ => ?_)
  refine wpAnyH_cores (fuel := 3) (⟨0, 19, [], Kind.val (.agg #[.int .u64 (wd Q 0 : Nat), .int .u64 (wd Q 1 : Nat), .int .u64 (wd Q 2 : Nat), .int .u64 (wd Q 3 : Nat)]), true⟩ :: ⟨1, 20, [], Kind.val (.agg #[.int .u64 (wd r 0 : Nat), .int .u64 (wd r 1 : Nat), .int .u64 (wd r 2 : Nat), .int .u64 (wd r 3 : Nat)]), true⟩ :: []) _ _ W3 _ ?_ ?_ ?_ ?_ ?_ ?_ ?_ ?_ ?_ ?_ ?_
  · rfl
  · kernel_rfl
  · exact of_decide_eq_true rfl
  · exact all_cons ⟨_, rfl, rfl⟩ (all_cons ⟨_, rfl, rfl⟩ (all_nil))
  · exact fun _ hb => ⟨Fq.out.on hb, Fr.out.on hb⟩
  · exact (Below.refl _ _).drew
  · kernel_rfl
  · exact fun _ _ _ _ _ h => h
  · refine all_cons ?_ (all_cons ?_ (all_nil))
    · exact core_loadP _ _ _ _ _ gq _ _ _ _ (by rfl) (by rfl) (known_old 4 _ (of_decide_eq_true (by rfl)) (by rfl)) (fun _ hs => hs.1)
    · exact core_loadP _ _ _ _ _ gr _ _ _ _ (by rfl) (by rfl) (known_old 5 _ (of_decide_eq_true (by rfl)) (by rfl)) (fun _ hs => hs.2)
  · refine all_cons ?_ (all_cons ?_ (all_nil))
    · exact core_stepAs _ (by rfl)
    · exact core_stepAs _ (by rfl)
  intro vs y4 hc
  obtain ⟨vv0, vv1, rfl⟩ := len2 vs hc.lv
  have qq0 : vv0 = .agg #[.int .u64 (wd Q 0 : Nat), .int .u64 (wd Q 1 : Nat), .int .u64 (wd Q 2 : Nat), .int .u64 (wd Q 3 : Nat)] := by obtain ⟨xx, hx, hy⟩ := hc.ok 0 _ rfl rfl; exact (Option.some.inj (show some vv0 = some xx from hx)).trans hy
  have qq1 : vv1 = .agg #[.int .u64 (wd r 0 : Nat), .int .u64 (wd r 1 : Nat), .int .u64 (wd r 2 : Nat), .int .u64 (wd r 3 : Nat)] := by obtain ⟨xx, hx, hy⟩ := hc.ok 1 _ rfl rfl; exact (Option.some.inj (show some vv1 = some xx from hx)).trans hy
  have BZ := hc.bel
  clear hc
  have Na := Fa.out.on BZ
  have Nb := Fb.out.on BZ
  have Nq := Fq.out.on BZ
  have Nr := Fr.out.on BZ
  have HSZ4 := BW.out.size
  have NB := bel_tr BW.out BZ
  clear BW BZ Fa Fb Fq Fr
  subst qq0 qq1
  simp only [List.map_cons, List.map_nil, over, Act.put, List.setIfInBounds_toArray, List.set_cons_zero, List.set_cons_succ]
  have OLD := Nq
  replace Na := put4_far Na Daq (.int .u64 (wd Q 0 : Nat)) (.int .u64 (wd Q 1 : Nat)) (.int .u64 (wd Q 2 : Nat)) (.int .u64 (wd Q 3 : Nat))
  replace Nb := put4_far Nb Dbq (.int .u64 (wd Q 0 : Nat)) (.int .u64 (wd Q 1 : Nat)) (.int .u64 (wd Q 2 : Nat)) (.int .u64 (wd Q 3 : Nat))
  replace Nq := put4_at Nq (.int .u64 (wd Q 0 : Nat)) (.int .u64 (wd Q 1 : Nat)) (.int .u64 (wd Q 2 : Nat)) (.int .u64 (wd Q 3 : Nat))
  replace Nr := put4_far Nr Dqr.symm (.int .u64 (wd Q 0 : Nat)) (.int .u64 (wd Q 1 : Nat)) (.int .u64 (wd Q 2 : Nat)) (.int .u64 (wd Q 3 : Nat))
  replace NB := put4_below NB Eq (.int .u64 (wd Q 0 : Nat)) (.int .u64 (wd Q 1 : Nat)) (.int .u64 (wd Q 2 : Nat)) (.int .u64 (wd Q 3 : Nat))
  refine store_one (i := 2) _ _ _ _ _ gq _ _ _ _ _ _ _ _ (by kernel_rfl) (by rfl) (by rfl) (by rfl) OLD (⟨Nq, Nr⟩) ?_
  clear OLD
  generalize (put4 y4 gq (.int .u64 (wd Q 0 : Nat)) (.int .u64 (wd Q 1 : Nat)) (.int .u64 (wd Q 2 : Nat)) (.int .u64 (wd Q 3 : Nat))) = y4_2 at *
  have OLD := Nr
  replace Na := put4_far Na Dar (.int .u64 (wd r 0 : Nat)) (.int .u64 (wd r 1 : Nat)) (.int .u64 (wd r 2 : Nat)) (.int .u64 (wd r 3 : Nat))
  replace Nb := put4_far Nb Dbr (.int .u64 (wd r 0 : Nat)) (.int .u64 (wd r 1 : Nat)) (.int .u64 (wd r 2 : Nat)) (.int .u64 (wd r 3 : Nat))
  replace Nq := put4_far Nq Dqr (.int .u64 (wd r 0 : Nat)) (.int .u64 (wd r 1 : Nat)) (.int .u64 (wd r 2 : Nat)) (.int .u64 (wd r 3 : Nat))
  replace Nr := put4_at Nr (.int .u64 (wd r 0 : Nat)) (.int .u64 (wd r 1 : Nat)) (.int .u64 (wd r 2 : Nat)) (.int .u64 (wd r 3 : Nat))
  replace NB := put4_below NB Er (.int .u64 (wd r 0 : Nat)) (.int .u64 (wd r 1 : Nat)) (.int .u64 (wd r 2 : Nat)) (.int .u64 (wd r 3 : Nat))
  refine store_one (i := 3) _ _ _ _ _ gr _ _ _ _ _ _ _ _ (by kernel_rfl) (by rfl) (by rfl) (by rfl) OLD (⟨Nq, Nr⟩) ?_
  clear OLD
  generalize (put4 y4_2 gr (.int .u64 (wd r 0 : Nat)) (.int .u64 (wd r 1 : Nat)) (.int .u64 (wd r 2 : Nat)) (.int .u64 (wd r 3 : Nat))) = y4_3 at *
  refine assign_one (i := 4) _ 6 _ _ _ _ (by kernel_rfl) (by rfl) (by rfl) (⟨Nq, Nr⟩) ?_
  try simp only [Act.put, List.setIfInBounds_toArray, List.set_cons_zero, List.set_cons_succ]
  refine wpAnyH_done (by kernel_rfl) ?_ _
  refine NoPanic.normal ?_
  have Fa := Lib.hid Na
  have Fb := Lib.hid Nb
  have Fq := Lib.hid Nq
  have Fr := Lib.hid Nr
  have BW := Lib.hid NB
  clear NB Na Nb Nq Nr
  clear HSZ4
  have Lq := Fq.out.lt
  have cq0 := Fq.out.c0
  have cq1 := Fq.out.c1
  have cq2 := Fq.out.c2
  have cq3 := Fq.out.c3
  have Lr := Fr.out.lt
  have cr0 := Fr.out.c0
  have cr1 := Fr.out.c1
  have cr2 := Fr.out.c2
  have cr3 := Fr.out.c3
  go_wp2_with fail
  refine bodyPost_ret (v := .tuple #[num Q, num r, .int .i64 0]) (by simp [results, Try.results73, go_sem, *]) rfl ⟨rfl, BW.out⟩

/-- divides.Div -/
theorem div_ex (A B : Nat) (hA : A < 2 ^ 256) (hB : B < 2 ^ 256) (hB0 : B ≠ 0) : ∃ Q r : Nat, Q < 2 ^ 256 ∧ r < B ∧ A = Q * B + r ∧
    ∀ w, Calls Try.prog 73 #[num A, num B] w fun e w' => e = .returned (.tuple #[num Q, num r, .int .i64 0]) ∧ Below w.heap.size w w' := by
  obtain ⟨Q, r, hQ, hr, he, C⟩ := behind_ex 0 A B (by omega) hA hB
  exact ⟨Q, r, hQ, hr, by rw [← he]; simp [wide], fun w => div_some A B Q r hB hB0 C w⟩
end Go.Proofs.Ytodlpmepoakdlaa
