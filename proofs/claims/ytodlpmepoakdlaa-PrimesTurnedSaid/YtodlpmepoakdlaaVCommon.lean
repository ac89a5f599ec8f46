/-
  divides.Common: by Euclid.
-/
import Derived.Test.YtodlpmepoakdlaaVSmall
import Derived.Test.YtodlpmepoakdlaaVWide
namespace Go.Proofs.Ytodlpmepoakdlaa
set_option maxRecDepth 100000
open Go.RowKit
set_option linter.unusedSimpArgs false
set_option linter.unusedVariables false
attribute [local go_sem ↓] Go.wp_at_zero Go.wp_at_succ

/-- what a block of words tells -/
def blockVal (w : World) (g : Nat) : Nat := match w.heap[g]? with
  | some (.cells cs _ _) => (intOf (cs.getD 0 undef)).toNat + 18446744073709551616 * (intOf (cs.getD 1 undef)).toNat + 340282366920938463463374607431768211456 * (intOf (cs.getD 2 undef)).toNat + 6277101735386680763835789423207666416102355444464034512896 * (intOf (cs.getD 3 undef)).toNat
  | _ => 0
theorem At.val {w : World} {g X : Nat} {t : TypeId} (hX : X < 2 ^ 256) (h : At w g t #[.int .u64 (wd X 0 : Nat), .int .u64 (wd X 1 : Nat), .int .u64 (wd X 2 : Nat), .int .u64 (wd X 3 : Nat)]) : blockVal w g = X := by
  unfold At at h
  unfold blockVal
  rw [h]
  have := wd_sum X hX
  simp [intOf]
  omega

set_option maxHeartbeats 2000000 in
theorem common_any (A B : Nat) (hA : A < 2 ^ 256) (hB : B < 2 ^ 256) (w : World) : Calls Try.prog 74 #[num A, num B] w fun e w' => e = .returned (num (Nat.gcd A B)) ∧ Below w.heap.size w w' := by
  go_enter Try.func74, Try.ntmps74
  go_wp2_with fail
  have BW := Lib.hid (Below.refl w.heap.size w)
  generalize hW1 : (((w.alloc (.cells #[.int .u64 (wd A 0 : Nat), .int .u64 (wd A 1 : Nat), .int .u64 (wd A 2 : Nat), .int .u64 (wd A 3 : Nat)] 24)).alloc (.cells #[.int .u64 (wd B 0 : Nat), .int .u64 (wd B 1 : Nat), .int .u64 (wd B 2 : Nat), .int .u64 (wd B 3 : Nat)] 24)).alloc (.cells #[.int .u64 0, .int .u64 0, .int .u64 0, .int .u64 0] 24)) = W1 at *
  have Na : At W1 (w.heap.size) _ _ := at_of hW1 (((At.at_ _ _ _ _ (by simp)).alloc _).alloc _)
  have Nb : At W1 (w.heap.size + 1) _ _ := at_of hW1 ((At.at_ _ _ _ _ (by simp)).alloc _)
  have Eb : w.heap.size ≤ w.heap.size + 1 := by have := BW.out.size; omega
  have Dab : w.heap.size ≠ w.heap.size + 1 := by omega
  have Nq : At W1 (w.heap.size + 1 + 1) _ _ := at_of hW1 (At.at_ _ _ _ _ (by simp))
  have Eq : w.heap.size ≤ w.heap.size + 1 + 1 := by have := BW.out.size; omega
  have Daq : w.heap.size ≠ w.heap.size + 1 + 1 := by omega
  have Dbq : w.heap.size + 1 ≠ w.heap.size + 1 + 1 := by omega
  have NB := gr_of hW1 (gr_alloc (gr_alloc (gr_alloc BW.out _) _) _)
  clear BW
  clear hW1
  generalize w.heap.size + 1 + 1 = gq at *
  generalize w.heap.size + 1 = gb at *
  obtain ⟨ga, hg0⟩ : ∃ g, g = w.heap.size := ⟨_, rfl⟩
  rw [← hg0] at Na ⊢
  rw [← hg0] at Dab Daq
  have Ea : w.heap.size ≤ ga := by omega
  clear hg0
  have Fa := Lib.hid Na
  have Fb := Lib.hid Nb
  have Fq := Lib.hid Nq
  have BW := Lib.hid NB
  clear NB Na Nb Nq
  go_step3
  go_wp2
  go_step3
  go_wp2
  go_loopw [] (fun wr => ∃ X Y : Nat, X < 2 ^ 256 ∧ Y < 2 ^ 256 ∧ Hid (At wr ga 24 #[.int .u64 (wd X 0 : Nat), .int .u64 (wd X 1 : Nat), .int .u64 (wd X 2 : Nat), .int .u64 (wd X 3 : Nat)] ∧ At wr gb 24 #[.int .u64 (wd Y 0 : Nat), .int .u64 (wd Y 1 : Nat), .int .u64 (wd Y 2 : Nat), .int .u64 (wd Y 3 : Nat)] ∧ At wr gq 24 #[.int .u64 0, .int .u64 0, .int .u64 0, .int .u64 0] ∧ Below w.heap.size w wr ∧ Nat.gcd X Y = Nat.gcd A B)) (fun wr => blockVal wr gb)
  case atStart => exact ⟨A, B, hA, hB, Fa.out, Fb.out, Fq.out, BW.out, rfl⟩
  case round =>
    obtain ⟨X, Y, hX, hY, hM⟩ := hrel
    clear Fa Fb Fq BW
    have HMS := Lib.hid (hM.out.2.1.val hY)
    by_cases hy : Y = 0
    · subst hy
      have C := div_zero X
      rw [num_zero] at C
      have HC := Lib.hid C
      clear C
      have Fa := Lib.hid hM.out.1; have Fb := Lib.hid hM.out.2.1; have Fq := Lib.hid hM.out.2.2.1; have BW := Lib.hid hM.out.2.2.2.1; have HG := Lib.hid hM.out.2.2.2.2
      clear hM
      have e0 : ∀ k, wd 0 k = 0 := fun k => by simp [wd]
      have Nb := Fb.out
      rw [e0, e0, e0, e0] at Nb
      clear Fb e0
      have Fb := Lib.hid Nb
      clear Nb
      have La := Fa.out.lt
      have ca0 := Fa.out.c0
      have ca1 := Fa.out.c1
      have ca2 := Fa.out.c2
      have ca3 := Fa.out.c3
      have Lb := Fb.out.lt
      have cb0 : wr.cell? ⟨gb, 0, none⟩ = some (.int .u64 0) := Fb.out.cell 0
      have cb1 : wr.cell? ⟨gb, 1, none⟩ = some (.int .u64 0) := Fb.out.cell 1
      have cb2 : wr.cell? ⟨gb, 2, none⟩ = some (.int .u64 0) := Fb.out.cell 2
      have cb3 : wr.cell? ⟨gb, 3, none⟩ = some (.int .u64 0) := Fb.out.cell 3
      go_wp2_with fail
      clear La ca0 ca1 ca2 ca3 Lb cb0 cb1 cb2 cb3
      refine (HC.out _).mono ?_
      rintro e v2 ⟨rfl, z2⟩
      have Na := Lib.hid (Fa.out.on z2)
      have Nb := Lib.hid (Fb.out.on z2)
      have Nq := Lib.hid (Fq.out.on z2)
      have NB := Lib.hid (bel_tr BW.out z2)
      clear BW z2 Fa Fb Fq
      have Fa := Na
      have Fb := Nb
      have Fq := Nq
      have BW := NB
      clear NB Na Nb Nq
      have La := Fa.out.lt
      have ca0 := Fa.out.c0
      have ca1 := Fa.out.c1
      have ca2 := Fa.out.c2
      have ca3 := Fa.out.c3
      have Lq := Fq.out.lt
      have cq0 : v2.cell? ⟨gq, 0, none⟩ = some (.int .u64 0) := Fq.out.cell 0
      have cq1 : v2.cell? ⟨gq, 1, none⟩ = some (.int .u64 0) := Fq.out.cell 1
      have cq2 : v2.cell? ⟨gq, 2, none⟩ = some (.int .u64 0) := Fq.out.cell 2
      have cq3 : v2.cell? ⟨gq, 3, none⟩ = some (.int .u64 0) := Fq.out.cell 3
      have fq0 : v2.frozen? ⟨gq, 0, none⟩ = false := Fq.out.frozen 0
      have fq1 : v2.frozen? ⟨gq, 1, none⟩ = false := Fq.out.frozen 1
      have fq2 : v2.frozen? ⟨gq, 2, none⟩ = false := Fq.out.frozen 2
      have fq3 : v2.frozen? ⟨gq, 3, none⟩ = false := Fq.out.frozen 3
      go_wp2_with fail
      generalize hW3 : ((((v2.setCell ⟨gq, 0, none⟩ (.int .u64 (wd X 0 : Nat))).setCell ⟨gq, 1, none⟩ (.int .u64 (wd X 1 : Nat))).setCell ⟨gq, 2, none⟩ (.int .u64 (wd X 2 : Nat))).setCell ⟨gq, 3, none⟩ (.int .u64 (wd X 3 : Nat))) = W3 at *
      clear La ca0 ca1 ca2 ca3 Lq cq0 cq1 cq2 cq3 fq0 fq1 fq2 fq3
      have Na_0 := at_of hW3 ((Fa.out).far4 Daq _ _ _ _)
      have Nb_0 := at_of hW3 ((Fb.out).far4 Dbq _ _ _ _)
      have Nq_0 := at_of hW3 ((Fq.out).put4 _ _ _ _)
      have NB_0 := gr_of hW3 (((((BW.out).setCell Eq _).setCell Eq _).setCell Eq _).setCell Eq _)
      have Na := Na_0
      have Nb := Nb_0
      have Nq := Nq_0
      have NB := NB_0
      clear BW Fa Fb Fq Na_0 Nb_0 Nq_0 NB_0
      clear hW3
      have Fa := Lib.hid Na
      have Fb := Lib.hid Nb
      have Fq := Lib.hid Nq
      have BW := Lib.hid NB
      generalize hW4 : ((W3.alloc (.cells #[.int .u64 0, .int .u64 0, .int .u64 0, .int .u64 0] 24)).alloc (.cells #[.int .u64 0, .int .u64 0, .int .u64 0, .int .u64 0] 24)) = W4 at *
      clear NB Na Nb Nq
      have Nh : At W4 (W3.heap.size) _ _ := at_of hW4 ((At.at_ _ _ _ _ (by simp)).alloc _)
      have Dah : ga ≠ W3.heap.size := by have := Fa.out.lt; omega
      have Dbh : gb ≠ W3.heap.size := by have := Fb.out.lt; omega
      have Dqh : gq ≠ W3.heap.size := by have := Fq.out.lt; omega
      have Nl : At W4 (W3.heap.size + 1) _ _ := at_of hW4 (At.at_ _ _ _ _ (by simp))
      have Dal : ga ≠ W3.heap.size + 1 := by have := Fa.out.lt; omega
      have Dbl : gb ≠ W3.heap.size + 1 := by have := Fb.out.lt; omega
      have Dql : gq ≠ W3.heap.size + 1 := by have := Fq.out.lt; omega
      have Na := at_of hW4 ((Fa.out.alloc _).alloc _)
      have Nb := at_of hW4 ((Fb.out.alloc _).alloc _)
      have Nq := at_of hW4 ((Fq.out.alloc _).alloc _)
      have NB := gr_of hW4 (gr_alloc (gr_alloc BW.out _) _)
      clear BW Fa Fb Fq
      clear hW4
      generalize W3.heap.size + 1 = gl at *
      generalize W3.heap.size = gh at *
      have Fa := Lib.hid Na
      have Fb := Lib.hid Nb
      have Fq := Lib.hid Nq
      have Fh := Lib.hid Nh
      have Fl := Lib.hid Nl
      have BW := Lib.hid NB
      clear NB Na Nb Nq Nh Nl
      have Lq := Fq.out.lt
      have cq0 := Fq.out.c0
      have cq1 := Fq.out.c1
      have cq2 := Fq.out.c2
      have cq3 := Fq.out.c3
      try rw [Exit.noGoto_ret]
      refine bodyPost_ret (v := num X) (by simp [results, Try.results74, go_sem, *]) rfl ⟨by rw [← HG.out, Nat.gcd_zero_right], BW.out⟩
    · obtain ⟨Q, r, hQ, hr, he, C⟩ := div_ex X Y hX hY hy
      have HC := Lib.hid C; have HE := Lib.hid he; have HR := Lib.hid hr; have HY := Lib.hid hY
      clear C he hr hQ hY
      have Fa := Lib.hid hM.out.1; have Fb := Lib.hid hM.out.2.1; have Fq := Lib.hid hM.out.2.2.1; have BW := Lib.hid hM.out.2.2.2.1; have HG := Lib.hid hM.out.2.2.2.2
      clear hM
      have La := Fa.out.lt
      have ca0 := Fa.out.c0
      have ca1 := Fa.out.c1
      have ca2 := Fa.out.c2
      have ca3 := Fa.out.c3
      have Lb := Fb.out.lt
      have cb0 := Fb.out.c0
      have cb1 := Fb.out.c1
      have cb2 := Fb.out.c2
      have cb3 := Fb.out.c3
      go_wp2_with fail
      clear La ca0 ca1 ca2 ca3 Lb cb0 cb1 cb2 cb3
      refine (HC.out _).mono ?_
      rintro e v5 ⟨rfl, z5⟩
      have Na := Lib.hid (Fa.out.on z5)
      have Nb := Lib.hid (Fb.out.on z5)
      have Nq := Lib.hid (Fq.out.on z5)
      have NB := Lib.hid (bel_tr BW.out z5)
      clear BW z5 Fa Fb Fq
      have Fa := Na
      have Fb := Nb
      have Fq := Nq
      have BW := NB
      clear NB Na Nb Nq
      go_wp2_with fail
      generalize hW6 : ((v5.alloc (.cells #[.int .u64 (wd Q 0 : Nat), .int .u64 (wd Q 1 : Nat), .int .u64 (wd Q 2 : Nat), .int .u64 (wd Q 3 : Nat)] 24)).alloc (.cells #[.int .u64 (wd r 0 : Nat), .int .u64 (wd r 1 : Nat), .int .u64 (wd r 2 : Nat), .int .u64 (wd r 3 : Nat)] 24)) = W6 at *
      have Nh : At W6 (v5.heap.size) _ _ := at_of hW6 ((At.at_ _ _ _ _ (by simp)).alloc _)
      have Dah : ga ≠ v5.heap.size := by have := Fa.out.lt; omega
      have Dbh : gb ≠ v5.heap.size := by have := Fb.out.lt; omega
      have Dqh : gq ≠ v5.heap.size := by have := Fq.out.lt; omega
      have Nl : At W6 (v5.heap.size + 1) _ _ := at_of hW6 (At.at_ _ _ _ _ (by simp))
      have Dal : ga ≠ v5.heap.size + 1 := by have := Fa.out.lt; omega
      have Dbl : gb ≠ v5.heap.size + 1 := by have := Fb.out.lt; omega
      have Dql : gq ≠ v5.heap.size + 1 := by have := Fq.out.lt; omega
      have Na := at_of hW6 ((Fa.out.alloc _).alloc _)
      have Nb := at_of hW6 ((Fb.out.alloc _).alloc _)
      have Nq := at_of hW6 ((Fq.out.alloc _).alloc _)
      have NB := gr_of hW6 (gr_alloc (gr_alloc BW.out _) _)
      clear BW Fa Fb Fq
      clear hW6
      generalize v5.heap.size + 1 = gl at *
      generalize v5.heap.size = gh at *
      have Fa := Lib.hid Na
      have Fb := Lib.hid Nb
      have Fq := Lib.hid Nq
      have Fh := Lib.hid Nh
      have Fl := Lib.hid Nl
      have BW := Lib.hid NB
      clear NB Na Nb Nq Nh Nl
      try simp only [List.append_eq, List.cons_append, List.nil_append]
      refine wp_region_noPanic ?_
      refine wp_region_held_drew (S := fun w' => At w' gl 24 #[.int .u64 (wd r 0 : Nat), .int .u64 (wd r 1 : Nat), .int .u64 (wd r 2 : Nat), .int .u64 (wd r 3 : Nat)]) (by kernel_rfl) (Fl.out.drew) (fun _ => ?_)
      refine wpAnyH_cores (fuel := 2) (⟨0, 18, [], Kind.val (.agg #[.int .u64 (wd Y 0 : Nat), .int .u64 (wd Y 1 : Nat), .int .u64 (wd Y 2 : Nat), .int .u64 (wd Y 3 : Nat)]), false⟩ :: ⟨1, 19, [], Kind.val (.agg #[.int .u64 (wd r 0 : Nat), .int .u64 (wd r 1 : Nat), .int .u64 (wd r 2 : Nat), .int .u64 (wd r 3 : Nat)]), true⟩ :: []) _ _ W6 _ ?_ ?_ ?_ ?_ ?_ ?_ ?_ ?_ ?_ ?_ ?_
      · rfl
      · kernel_rfl
      · exact of_decide_eq_true rfl
      · exact all_cons ⟨_, rfl, rfl⟩ (all_cons ⟨_, rfl, rfl⟩ (all_nil))
      · exact fun _ hb => Fl.out.on hb
      · exact (Below.refl _ _).drew
      · kernel_rfl
      · exact fun _ _ _ _ _ h => h
      · refine all_cons ?_ (all_cons ?_ (all_nil))
        · exact core_pureAs _ (by rfl)
        · exact core_loadP _ _ _ _ _ gl _ _ _ _ (by rfl) (by rfl) (known_old 6 _ (of_decide_eq_true (by rfl)) (by rfl)) (fun _ hs => hs)
      · refine all_cons ?_ (all_cons ?_ (all_nil))
        · exact fun _ => core_load _ _ _ _ _ gb _ _ _ _ (by rfl) (by rfl) (known_old 3 _ (of_decide_eq_true (by rfl)) (by rfl)) Fb.out
        · exact core_stepAs _ (by rfl)
      intro vs y7 hc
      obtain ⟨vv0, vv1, rfl⟩ := len2 vs hc.lv
      have qq0 : vv0 = .agg #[.int .u64 (wd Y 0 : Nat), .int .u64 (wd Y 1 : Nat), .int .u64 (wd Y 2 : Nat), .int .u64 (wd Y 3 : Nat)] := by obtain ⟨xx, hx, hy⟩ := hc.ok 0 _ rfl rfl; exact (Option.some.inj (show some vv0 = some xx from hx)).trans hy
      have qq1 : vv1 = .agg #[.int .u64 (wd r 0 : Nat), .int .u64 (wd r 1 : Nat), .int .u64 (wd r 2 : Nat), .int .u64 (wd r 3 : Nat)] := by obtain ⟨xx, hx, hy⟩ := hc.ok 1 _ rfl rfl; exact (Option.some.inj (show some vv1 = some xx from hx)).trans hy
      have BZ := hc.bel
      clear hc
      have Na := Fa.out.on BZ
      have Nb := Fb.out.on BZ
      have Nq := Fq.out.on BZ
      have Nh := Fh.out.on BZ
      have Nl := Fl.out.on BZ
      have HSZ7 := BW.out.size
      have NB := bel_tr BW.out BZ
      clear BW BZ Fa Fb Fq Fh Fl
      subst qq0 qq1
      simp only [List.map_cons, List.map_nil, over, Act.put, List.setIfInBounds_toArray, List.set_cons_zero, List.set_cons_succ]
      have OLD := Na
      replace Na := put4_at Na (.int .u64 (wd Y 0 : Nat)) (.int .u64 (wd Y 1 : Nat)) (.int .u64 (wd Y 2 : Nat)) (.int .u64 (wd Y 3 : Nat))
      replace Nb := put4_far Nb Dab.symm (.int .u64 (wd Y 0 : Nat)) (.int .u64 (wd Y 1 : Nat)) (.int .u64 (wd Y 2 : Nat)) (.int .u64 (wd Y 3 : Nat))
      replace Nq := put4_far Nq Daq.symm (.int .u64 (wd Y 0 : Nat)) (.int .u64 (wd Y 1 : Nat)) (.int .u64 (wd Y 2 : Nat)) (.int .u64 (wd Y 3 : Nat))
      replace Nh := put4_far Nh Dah.symm (.int .u64 (wd Y 0 : Nat)) (.int .u64 (wd Y 1 : Nat)) (.int .u64 (wd Y 2 : Nat)) (.int .u64 (wd Y 3 : Nat))
      replace Nl := put4_far Nl Dal.symm (.int .u64 (wd Y 0 : Nat)) (.int .u64 (wd Y 1 : Nat)) (.int .u64 (wd Y 2 : Nat)) (.int .u64 (wd Y 3 : Nat))
      replace NB := put4_below NB Ea (.int .u64 (wd Y 0 : Nat)) (.int .u64 (wd Y 1 : Nat)) (.int .u64 (wd Y 2 : Nat)) (.int .u64 (wd Y 3 : Nat))
      refine store_one (i := 2) _ _ _ _ _ ga _ _ _ _ _ _ _ _ (by kernel_rfl) (by rfl) (by rfl) (by rfl) OLD (Nl) ?_
      clear OLD
      generalize (put4 y7 ga (.int .u64 (wd Y 0 : Nat)) (.int .u64 (wd Y 1 : Nat)) (.int .u64 (wd Y 2 : Nat)) (.int .u64 (wd Y 3 : Nat))) = y7_2 at *
      have OLD := Nb
      replace Na := put4_far Na Dab (.int .u64 (wd r 0 : Nat)) (.int .u64 (wd r 1 : Nat)) (.int .u64 (wd r 2 : Nat)) (.int .u64 (wd r 3 : Nat))
      replace Nb := put4_at Nb (.int .u64 (wd r 0 : Nat)) (.int .u64 (wd r 1 : Nat)) (.int .u64 (wd r 2 : Nat)) (.int .u64 (wd r 3 : Nat))
      replace Nq := put4_far Nq Dbq.symm (.int .u64 (wd r 0 : Nat)) (.int .u64 (wd r 1 : Nat)) (.int .u64 (wd r 2 : Nat)) (.int .u64 (wd r 3 : Nat))
      replace Nh := put4_far Nh Dbh.symm (.int .u64 (wd r 0 : Nat)) (.int .u64 (wd r 1 : Nat)) (.int .u64 (wd r 2 : Nat)) (.int .u64 (wd r 3 : Nat))
      replace Nl := put4_far Nl Dbl.symm (.int .u64 (wd r 0 : Nat)) (.int .u64 (wd r 1 : Nat)) (.int .u64 (wd r 2 : Nat)) (.int .u64 (wd r 3 : Nat))
      replace NB := put4_below NB Eb (.int .u64 (wd r 0 : Nat)) (.int .u64 (wd r 1 : Nat)) (.int .u64 (wd r 2 : Nat)) (.int .u64 (wd r 3 : Nat))
      refine store_one (i := 3) _ _ _ _ _ gb _ _ _ _ _ _ _ _ (by kernel_rfl) (by rfl) (by rfl) (by rfl) OLD (Nl) ?_
      clear OLD
      generalize (put4 y7_2 gb (.int .u64 (wd r 0 : Nat)) (.int .u64 (wd r 1 : Nat)) (.int .u64 (wd r 2 : Nat)) (.int .u64 (wd r 3 : Nat))) = y7_3 at *
      refine wpAnyH_done (by kernel_rfl) ?_ _
      refine NoPanic.normal ?_
      have Fa := Lib.hid Na
      have Fb := Lib.hid Nb
      have Fq := Lib.hid Nq
      have Fh := Lib.hid Nh
      have Fl := Lib.hid Nl
      have BW := Lib.hid NB
      clear NB Na Nb Nq Nh Nl
      clear HSZ7
      go_wp2_with fail
      go_roundw
      case rel =>
        have hr := HR.out
        have hY := HY.out
        refine ⟨Y, r, hY, by omega, Fa.out, Fb.out, Fq.out, BW.out, ?_⟩
        rw [← HG.out, HE.out, Nat.gcd_comm (Q * Y + r), Nat.mul_comm Q Y]
        simp
      case measure =>
        have hr := HR.out
        have hY := HY.out
        rw [HMS.out, Fb.out.val (by omega)]; exact hr
end Go.Proofs.Ytodlpmepoakdlaa
