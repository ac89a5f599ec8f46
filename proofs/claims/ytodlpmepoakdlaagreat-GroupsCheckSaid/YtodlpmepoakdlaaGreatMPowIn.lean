import Derived.Deep.Cut
import Derived.Test.YtodlpmepoakdlaaGreatMRWord
import Derived.Test.YtodlpmepoakdlaaGreatMRsn
import Derived.Test.YtodlpmepoakdlaaGreatMShiftN
import Derived.Test.YtodlpmepoakdlaaGreatMSmall
import Derived.Test.YtodlpmepoakdlaaGreatMWide
namespace Go.Proofs.YtodlpmepoakdlaaGreat
set_option maxRecDepth 100000
set_option maxHeartbeats 8000000
open Go.RowKit
set_option linter.unusedSimpArgs false
set_option linter.unusedVariables false
attribute [local go_sem ↓] Go.wp_at_zero Go.wp_at_succ

def Jaa (w : World) (g : Nat) : Nat := match w.heap[g]? with
 | some (.cells cs _ _) => (intOf (cs.getD 0 undef)).toNat + 18446744073709551616 * (intOf (cs.getD 1 undef)).toNat + 340282366920938463463374607431768211456 * (intOf (cs.getD 2 undef)).toNat + 6277101735386680763835789423207666416102355444464034512896 * (intOf (cs.getD 3 undef)).toNat
 | _ => 0
theorem At.val {w : World} {g X : Nat} {t : TypeId} (hX : X < 2 ^ 256) (h : At w g t (ncs X)) : Jaa w g = X := by
 unfold At at h
 unfold Jaa
 rw [h]
 have := Xd X hX
 simp [intOf]
 omega

set_option maxHeartbeats 2000000 in
theorem common_any (A B : Nat) (hA : A < 2 ^ 256) (hB : B < 2 ^ 256) (w : World) : Calls Tryz.prog 90 #[num A, num B] w fun e w' => e = .returned (num (Nat.gcd A B)) ∧ Below w.heap.size w w' := by
 go_enter Tryz.func90, Tryz.ntmps90
 go_wp2_with fail
 have BW := Jfg (Below.refl w.heap.size w)
 generalize hW1 : (((w.alloc (.cells (ncs A) 24)).alloc (.cells (ncs B) 24)).alloc (.cells #[.int .u64 0, .int .u64 0, .int .u64 0, .int .u64 0] 24)) = W1 at *
 have Na : At W1 (w.heap.size) _ _ := Jb hW1 (((At.at_ _ _ _ _ (by simp)).alloc _).alloc _)
 have Nb : At W1 (w.heap.size + 1) _ _ := Jb hW1 ((At.at_ _ _ _ _ (by simp)).alloc _)
 have Eb : w.heap.size ≤ w.heap.size + 1 := by have := BW.out.size; omega
 have Dab : w.heap.size ≠ w.heap.size + 1 := by omega
 have Nq : At W1 (w.heap.size + 1 + 1) _ _ := Jb hW1 (At.at_ _ _ _ _ (by simp))
 have Eq : w.heap.size ≤ w.heap.size + 1 + 1 := by have := BW.out.size; omega
 have Daq : w.heap.size ≠ w.heap.size + 1 + 1 := by omega
 have Dbq : w.heap.size + 1 ≠ w.heap.size + 1 + 1 := by omega
 have NB := gr_of hW1 (gr_alloc (gr_alloc (gr_alloc BW.out _) _) _)
 clear BW
 clear hW1
 generalize w.heap.size + 1 + 1 = gq at *
 generalize w.heap.size + 1 = gb at *
 obtain ⟨ga, hg0⟩ : ∃ g, g = w.heap.size := ⟨_, rfl⟩
 rw [← hg0] at Na ⊢
 rw [← hg0] at Dab Daq
 have Ea : w.heap.size ≤ ga := by omega
 clear hg0
 have Fa := Jfg Na
 have Fb := Jfg Nb
 have Fq := Jfg Nq
 have BW := Jfg NB
 clear NB Na Nb Nq
 go_step3
 go_wp2
 go_step3
 go_wp2
 go_loopw [] (fun wr => ∃ X Y : Nat, X < 2 ^ 256 ∧ Y < 2 ^ 256 ∧ Hid (At wr ga 24 (ncs X) ∧ At wr gb 24 (ncs Y) ∧ At wr gq 24 #[.int .u64 0, .int .u64 0, .int .u64 0, .int .u64 0] ∧ Below w.heap.size w wr ∧ Nat.gcd X Y = Nat.gcd A B)) (fun wr => Jaa wr gb)
 case atStart => exact ⟨A, B, hA, hB, Fa.out, Fb.out, Fq.out, BW.out, rfl⟩
 case round =>
  obtain ⟨X, Y, hX, hY, hM⟩ := hrel
  clear Fa Fb Fq BW
  have HMS := Jfg (hM.out.2.1.val hY)
  by_cases hy : Y = 0
  ·subst hy
   have C := div_zero X
   rw [Jaq] at C
   have HC := Jfg C
   clear C
   have Fa := Jfg hM.out.1; have Fb := Jfg hM.out.2.1; have Fq := Jfg hM.out.2.2.1; have BW := Jfg hM.out.2.2.2.1; have HG := Jfg hM.out.2.2.2.2
   clear hM
   have e0 : ∀ k, wd 0 k = 0 := fun k => by simp [wd]
   have Nb := Fb.out
   (try unfold ncs at Nb); rw [e0, e0, e0, e0] at Nb
   clear Fb e0
   have Fb := Jfg Nb
   clear Nb
   have La := Fa.out.lt
   have ca0 := Fa.out.c0; have ca1 := Fa.out.c1; have ca2 := Fa.out.c2; have ca3 := Fa.out.c3
   have Lb := Fb.out.lt
   have cb0 : wr.cell? ⟨gb, 0, none⟩ = some (.int .u64 0) := Fb.out.cell 0
   have cb1 : wr.cell? ⟨gb, 1, none⟩ = some (.int .u64 0) := Fb.out.cell 1
   have cb2 : wr.cell? ⟨gb, 2, none⟩ = some (.int .u64 0) := Fb.out.cell 2
   have cb3 : wr.cell? ⟨gb, 3, none⟩ = some (.int .u64 0) := Fb.out.cell 3
   go_wp2_with fail
   clear La ca0 ca1 ca2 ca3 Lb cb0 cb1 cb2 cb3
   refine (HC.out _).mono ?_
   rintro e v2 ⟨rfl, z2⟩
   have Na := Jfg (Fa.out.on z2)
   have Nb := Jfg (Fb.out.on z2)
   have Nq := Jfg (Fq.out.on z2)
   have NB := Jfg (bel_tr BW.out z2)
   clear BW z2 Fa Fb Fq
   have Fa := Na
   have Fb := Nb
   have Fq := Nq
   have BW := NB
   clear NB Na Nb Nq
   have La := Fa.out.lt
   have ca0 := Fa.out.c0; have ca1 := Fa.out.c1; have ca2 := Fa.out.c2; have ca3 := Fa.out.c3
   have Lq := Fq.out.lt
   have cq0 : v2.cell? ⟨gq, 0, none⟩ = some (.int .u64 0) := Fq.out.cell 0
   have cq1 : v2.cell? ⟨gq, 1, none⟩ = some (.int .u64 0) := Fq.out.cell 1
   have cq2 : v2.cell? ⟨gq, 2, none⟩ = some (.int .u64 0) := Fq.out.cell 2
   have cq3 : v2.cell? ⟨gq, 3, none⟩ = some (.int .u64 0) := Fq.out.cell 3
   obtain ⟨fq0, fq1, fq2, fq3⟩ := Vb Fq.out
   go_wp2_with fail
   generalize hW3 : ((((v2.setCell ⟨gq, 0, none⟩ (.int .u64 (wd X 0))).setCell ⟨gq, 1, none⟩ (.int .u64 (wd X 1))).setCell ⟨gq, 2, none⟩ (.int .u64 (wd X 2))).setCell ⟨gq, 3, none⟩ (.int .u64 (wd X 3))) = W3 at *
   clear La ca0 ca1 ca2 ca3 Lq cq0 cq1 cq2 cq3 fq0 fq1 fq2 fq3
   have Na_0 := Jb hW3 ((Fa.out).far4 Daq _ _ _ _)
   have Nb_0 := Jb hW3 ((Fb.out).far4 Dbq _ _ _ _)
   have Nq_0 := Jb hW3 ((Fq.out).put4 _ _ _ _)
   have NB_0 := gr_of hW3 (((((BW.out).setCell Eq _).setCell Eq _).setCell Eq _).setCell Eq _)
   have Na := Na_0
   have Nb := Nb_0
   have Nq := Nq_0
   have NB := NB_0
   clear BW Fa Fb Fq Na_0 Nb_0 Nq_0 NB_0
   clear hW3
   have Fa := Jfg Na
   have Fb := Jfg Nb
   have Fq := Jfg Nq
   have BW := Jfg NB
   generalize hW4 : ((W3.alloc (.cells #[.int .u64 0, .int .u64 0, .int .u64 0, .int .u64 0] 24)).alloc (.cells #[.int .u64 0, .int .u64 0, .int .u64 0, .int .u64 0] 24)) = W4 at *
   clear NB Na Nb Nq
   have Nh : At W4 (W3.heap.size) _ _ := Jb hW4 ((At.at_ _ _ _ _ (by simp)).alloc _)
   have Dah : ga ≠ W3.heap.size := by have := Fa.out.lt; omega
   have Dbh : gb ≠ W3.heap.size := by have := Fb.out.lt; omega
   have Dqh : gq ≠ W3.heap.size := by have := Fq.out.lt; omega
   have Nl : At W4 (W3.heap.size + 1) _ _ := Jb hW4 (At.at_ _ _ _ _ (by simp))
   have Dal : ga ≠ W3.heap.size + 1 := by have := Fa.out.lt; omega
   have Dbl : gb ≠ W3.heap.size + 1 := by have := Fb.out.lt; omega
   have Dql : gq ≠ W3.heap.size + 1 := by have := Fq.out.lt; omega
   have Na := Jb hW4 ((Fa.out.alloc _).alloc _)
   have Nb := Jb hW4 ((Fb.out.alloc _).alloc _)
   have Nq := Jb hW4 ((Fq.out.alloc _).alloc _)
   have NB := gr_of hW4 (gr_alloc (gr_alloc BW.out _) _)
   clear BW Fa Fb Fq
   clear hW4
   generalize W3.heap.size + 1 = gl at *
   generalize W3.heap.size = gh at *
   have Fa := Jfg Na
   have Fb := Jfg Nb
   have Fq := Jfg Nq
   have Fh := Jfg Nh
   have Fl := Jfg Nl
   have BW := Jfg NB
   clear NB Na Nb Nq Nh Nl
   have Lq := Fq.out.lt
   have cq0 := Fq.out.c0; have cq1 := Fq.out.c1; have cq2 := Fq.out.c2; have cq3 := Fq.out.c3
   try rw [Exit.noGoto_ret]
   refine bodyPost_ret (v := num X) (by simp [results, Tryz.results90, go_sem, *]) rfl ⟨by rw [← HG.out, Nat.gcd_zero_right], BW.out⟩
  ·obtain ⟨Q, r, hQ, hr, he, C⟩ := Jdk X Y hX hY hy
   have HC := Jfg C; have HE := Jfg he; have HR := Jfg hr; have HY := Jfg hY
   clear C he hr hQ hY
   have Fa := Jfg hM.out.1; have Fb := Jfg hM.out.2.1; have Fq := Jfg hM.out.2.2.1; have BW := Jfg hM.out.2.2.2.1; have HG := Jfg hM.out.2.2.2.2
   clear hM
   have La := Fa.out.lt
   have ca0 := Fa.out.c0; have ca1 := Fa.out.c1; have ca2 := Fa.out.c2; have ca3 := Fa.out.c3
   have Lb := Fb.out.lt
   have cb0 := Fb.out.c0; have cb1 := Fb.out.c1; have cb2 := Fb.out.c2; have cb3 := Fb.out.c3
   go_wp2_with fail
   clear La ca0 ca1 ca2 ca3 Lb cb0 cb1 cb2 cb3
   refine (HC.out _).mono ?_
   rintro e v5 ⟨rfl, z5⟩
   have Na := Jfg (Fa.out.on z5)
   have Nb := Jfg (Fb.out.on z5)
   have Nq := Jfg (Fq.out.on z5)
   have NB := Jfg (bel_tr BW.out z5)
   clear BW z5 Fa Fb Fq
   have Fa := Na
   have Fb := Nb
   have Fq := Nq
   have BW := NB
   clear NB Na Nb Nq
   go_wp2_with fail
   generalize hW6 : ((v5.alloc (.cells (ncs Q) 24)).alloc (.cells (ncs r) 24)) = W6 at *
   have Nh : At W6 (v5.heap.size) _ _ := Jb hW6 ((At.at_ _ _ _ _ (by simp)).alloc _)
   have Dah : ga ≠ v5.heap.size := by have := Fa.out.lt; omega
   have Dbh : gb ≠ v5.heap.size := by have := Fb.out.lt; omega
   have Dqh : gq ≠ v5.heap.size := by have := Fq.out.lt; omega
   have Nl : At W6 (v5.heap.size + 1) _ _ := Jb hW6 (At.at_ _ _ _ _ (by simp))
   have Dal : ga ≠ v5.heap.size + 1 := by have := Fa.out.lt; omega
   have Dbl : gb ≠ v5.heap.size + 1 := by have := Fb.out.lt; omega
   have Dql : gq ≠ v5.heap.size + 1 := by have := Fq.out.lt; omega
   have Na := Jb hW6 ((Fa.out.alloc _).alloc _)
   have Nb := Jb hW6 ((Fb.out.alloc _).alloc _)
   have Nq := Jb hW6 ((Fq.out.alloc _).alloc _)
   have NB := gr_of hW6 (gr_alloc (gr_alloc BW.out _) _)
   clear BW Fa Fb Fq
   clear hW6
   generalize v5.heap.size + 1 = gl at *
   generalize v5.heap.size = gh at *
   have Fa := Jfg Na
   have Fb := Jfg Nb
   have Fq := Jfg Nq
   have Fh := Jfg Nh
   have Fl := Jfg Nl
   have BW := Jfg NB
   clear NB Na Nb Nq Nh Nl
   try simp only [List.append_eq, List.cons_append, List.nil_append]
   refine wp_region_noPanic ?_
   refine wp_region_held_drew (S := fun w' => At w' gl 24 (ncs r)) (by kernel_rfl) (Fl.out.drew) (fun _ => ?_)
   refine Jo (fuel := 2) (⟨0, 18, [], Kind.val (num Y), false⟩ :: ⟨1, 19, [], Kind.val (num r), true⟩ :: []) _ _ W6 _ ?_ ?_ ?_ ?_ ?_ ?_ ?_ ?_ ?_ ?_ ?_
   ·rfl
   ·kernel_rfl
   ·exact of_decide_eq_true rfl
   ·(repeat refine all_cons ⟨_, rfl, rfl⟩ ?_); exact Je
   ·exact fun _ hb => Fl.out.on hb
   ·exact (Below.refl _ _).drew
   ·kernel_rfl
   ·exact fun _ _ _ _ _ h => h
   ·refine all_cons ?_ (all_cons ?_ (Je))
    ·exact Ji _ (by rfl)
    ·exact Jbc _ _ _ _ _ gl _ _ _ _ (by rfl) (by rfl) (ko 6) (fun _ hs => hs)
   ·refine all_cons ?_ (all_cons ?_ (Je))
    ·exact fun _ => Ku _ _ _ _ _ gb _ _ _ _ (by rfl) (by rfl) (ko 3) Fb.out
    ·exact sA
   intro vs y7 hc
   obtain ⟨vv0, vv1, rfl⟩ := len2 vs hc.lv
   have qq0 := okv hc 0
   have qq1 := okv hc 1
   have BZ := hc.bel
   clear hc
   have Na := Fa.out.on BZ
   have Nb := Fb.out.on BZ
   have Nq := Fq.out.on BZ
   have Nh := Fh.out.on BZ
   have Nl := Fl.out.on BZ
   have HSZ7 := BW.out.size
   have NB := bel_tr BW.out BZ
   clear BW BZ Fa Fb Fq Fh Fl
   subst qq0 qq1
   simp only [List.map_cons, List.map_nil, over, Act.put, List.setIfInBounds_toArray, List.set_cons_zero, List.set_cons_succ]
   have OLD := Na
   replace Na := p4a Na Y
   replace Nb := p4f Nb Dab.symm Y
   replace Nq := p4f Nq Daq.symm Y
   replace Nh := p4f Nh Dah.symm Y
   replace Nl := p4f Nl Dal.symm Y
   replace NB := p4b NB Ea Y
   refine Kt (i := 2) _ _ _ _ _ ga _ _ _ _ _ _ _ _ (by kernel_rfl) (by rfl) (by rfl) (by rfl) OLD (Nl) ?_
   clear OLD
   generalize (put4 y7 ga (.int .u64 (wd Y 0)) (.int .u64 (wd Y 1)) (.int .u64 (wd Y 2)) (.int .u64 (wd Y 3))) = y7_2 at *
   have OLD := Nb
   replace Na := p4f Na Dab r
   replace Nb := p4a Nb r
   replace Nq := p4f Nq Dbq.symm r
   replace Nh := p4f Nh Dbh.symm r
   replace Nl := p4f Nl Dbl.symm r
   replace NB := p4b NB Eb r
   refine Kt (i := 3) _ _ _ _ _ gb _ _ _ _ _ _ _ _ (by kernel_rfl) (by rfl) (by rfl) (by rfl) OLD (Nl) ?_
   clear OLD
   generalize (put4 y7_2 gb (.int .u64 (wd r 0)) (.int .u64 (wd r 1)) (.int .u64 (wd r 2)) (.int .u64 (wd r 3))) = y7_3 at *
   refine wpAnyH_done (by kernel_rfl) ?_ _
   refine NoPanic.normal ?_
   have Fa := Jfg Na
   have Fb := Jfg Nb
   have Fq := Jfg Nq
   have Fh := Jfg Nh
   have Fl := Jfg Nl
   have BW := Jfg NB
   clear NB Na Nb Nq Nh Nl
   clear HSZ7
   go_wp2_with fail
   go_roundw
   case rel =>
    have hr := HR.out
    have hY := HY.out
    refine ⟨Y, r, hY, by omega, Fa.out, Fb.out, Fq.out, BW.out, ?_⟩
    rw [← HG.out, HE.out, Nat.gcd_comm (Q * Y + r), Nat.mul_comm Q Y]
    simp
   case measure =>
    have hr := HR.out
    have hY := HY.out
    rw [HMS.out, Fb.out.val (by omega)]; exact hr
theorem pow_step {m q e Q : Nat} (hd : q ^ e ∣ m) (h : m / q ^ e = Q * q + 0) : q ^ (e + 1) ∣ m ∧ m / q ^ (e + 1) = Q ∨ q = 0 := by
 rcases Nat.eq_zero_or_pos q with h0 | h0
 ·exact Or.inr h0
 ·refine Or.inl ?_
  have hm : m = q ^ (e + 1) * Q := by
   have h1 := Nat.mul_div_cancel' hd
   rw [h, Nat.add_zero] at h1
   rw [← h1, Nat.pow_succ, Nat.mul_assoc, Nat.mul_comm Q q]
  refine ⟨⟨Q, hm⟩, ?_⟩
  rw [hm, Nat.mul_div_cancel_left _ (Nat.pow_pos h0)]
theorem pow_last {m q e Q r : Nat} (h2 : 2 ≤ q) (h0 : 0 < m) (hd : q ^ e ∣ m) (h : m / q ^ e = Q * q + r) (hr : r < q) (hne : r ≠ 0) : Pr.gp q m = q ^ e := by
 refine Pr.gp_of h2 h0 hd fun hd2 => ?_
 obtain ⟨c, hc⟩ := hd2
 have hp : 0 < q ^ e := Nat.pow_pos (by omega)
 have : m / q ^ e = q * c := by rw [hc, Nat.mul_assoc, Nat.mul_div_cancel_left _ hp]
 rw [this] at h
 have h3 : q * c % q = (Q * q + r) % q := by rw [h]
 rw [Nat.mul_mod_right, Nat.mul_comm, Nat.mul_add_mod, Nat.mod_eq_of_lt hr] at h3
 omega

theorem powin_any (M q : Nat) (h0 : 0 < M) (hM : M < 2 ^ 256) (h2 : 2 ≤ q) (hq : q < 2 ^ 256) (w : World) : Calls Tryz.prog 88 #[num M, num q] w fun e w' => e = .returned (num (Pr.gp q M)) ∧ Below w.heap.size w w' := by
 have HO := Jfg (fun w => Vc 1 (by decide) w)
 have H0 := Jfg h0; have HMM := Jfg hM; have H2 := Jfg h2; have HQ := Jfg hq
 clear h0 hM h2 hq
 go_enter Tryz.func88, Tryz.ntmps88
 go_wp2_with fail
 have BW := Jfg (Below.refl w.heap.size w)
 have Eq : w.heap.size ≤ w.heap.size + 1 := by have := BW.out.size; omega
 have Dnq : w.heap.size ≠ w.heap.size + 1 := by omega
 have Ez : w.heap.size ≤ w.heap.size + 1 + 1 := by have := BW.out.size; omega
 have Dnz : w.heap.size ≠ w.heap.size + 1 + 1 := by omega
 have Dqz : w.heap.size + 1 ≠ w.heap.size + 1 + 1 := by omega
 generalize hW1 : (((w.alloc (.cells (ncs M) 24)).alloc (.cells (ncs q) 24)).alloc (.cells #[.int .u64 0, .int .u64 0, .int .u64 0, .int .u64 0] 24)) = W1 at *
 have Nn : At W1 (w.heap.size) _ _ := Jb hW1 (((At.at_ _ _ _ _ (by simp)).alloc _).alloc _)
 have Nq : At W1 (w.heap.size + 1) _ _ := Jb hW1 ((At.at_ _ _ _ _ (by simp)).alloc _)
 have Nz : At W1 (w.heap.size + 1 + 1) _ _ := Jb hW1 (At.at_ _ _ _ _ (by simp))
 have NB := gr_of hW1 (gr_alloc (gr_alloc (gr_alloc BW.out _) _) _)
 clear hW1 BW 
 generalize w.heap.size + 1 + 1 = gz at *
 generalize w.heap.size + 1 = gq at *
 obtain ⟨gn, hg0⟩ : ∃ g, g = w.heap.size := ⟨_, rfl⟩
 rw [← hg0] at Nn ⊢
 rw [← hg0] at Dnq Dnz
 have En : w.heap.size ≤ gn := by omega
 clear hg0
 have Fn := Jfg Nn
 have Fq := Jfg Nq
 have Fz := Jfg Nz
 have BW := Jfg NB
 clear NB Nn Nq Nz
 refine (HO.out _).mono ?_
 rintro e v2 ⟨rfl, z2⟩
 have Nn := Jfg (Fn.out.on z2)
 have Nq := Jfg (Fq.out.on z2)
 have Nz := Jfg (Fz.out.on z2)
 have NB := Jfg (bel_tr BW.out z2)
 clear BW z2 Fn Fq Fz
 have Fn := Nn
 have Fq := Nq
 have Fz := Nz
 have BW := NB
 clear NB Nn Nq Nz
 go_wp2_with fail
 have Ep : w.heap.size ≤ v2.heap.size := by have := BW.out.size; omega
 have Dnp : gn ≠ v2.heap.size := by have := Fn.out.lt; omega
 have Dqp : gq ≠ v2.heap.size := by have := Fq.out.lt; omega
 have Dzp : gz ≠ v2.heap.size := by have := Fz.out.lt; omega
 generalize hW3 : (v2.alloc (.cells #[.int .u64 (wd 1 0), .int .u64 (wd 1 1), .int .u64 (wd 1 2), .int .u64 (wd 1 3)] 24)) = W3 at *
 have Np : At W3 (v2.heap.size) _ _ := Jb hW3 (At.at_ _ _ _ _ (by simp))
 have Nn := Jb hW3 (Fn.out.alloc _)
 have Nq := Jb hW3 (Fq.out.alloc _)
 have Nz := Jb hW3 (Fz.out.alloc _)
 have NB := gr_of hW3 (gr_alloc BW.out _)
 clear hW3 BW Fn Fq Fz
 generalize v2.heap.size = gp at *
 have Fn := Jfg Nn
 have Fq := Jfg Nq
 have Fz := Jfg Nz
 have Fp := Jfg Np
 have BW := Jfg NB
 clear NB Nn Nq Nz Np
 go_loopw [] (fun wr => ∃ e X P : Nat, Hid (At wr gn 24 (ncs X) ∧ At wr gq 24 (ncs q) ∧ At wr gz 24 #[.int .u64 0, .int .u64 0, .int .u64 0, .int .u64 0] ∧ At wr gp 24 (ncs P) ∧ Below w.heap.size w wr ∧ (X = M / q ^ e) ∧ (P = q ^ e) ∧ (q ^ e ∣ M))) (fun wr => Jaa wr gn)
 case atStart => exact ⟨0, M, 1, Fn.out, Fq.out, Fz.out, Fp.out, BW.out, by simp, by simp, by simp⟩
 case round =>
  obtain ⟨e, X, P, hM⟩ := hrel
  clear BW Fn Fq Fz Fp
  have Fn := Jfg hM.out.1
  have Fq := Jfg hM.out.2.1
  have Fz := Jfg hM.out.2.2.1
  have Fp := Jfg hM.out.2.2.2.1
  have BW := Jfg hM.out.2.2.2.2.1
  have HX := Jfg hM.out.2.2.2.2.2.1
  have HP := Jfg hM.out.2.2.2.2.2.2.1
  have HD := Jfg hM.out.2.2.2.2.2.2.2
  clear hM
  have hXM : X ≤ M := by rw [HX.out]; exact Nat.div_le_self _ _
  have hX : X < 2 ^ 256 := Nat.lt_of_le_of_lt hXM HMM.out
  have hX0 : 0 < X := by
   rw [HX.out]; exact Nat.div_pos (Nat.le_of_dvd H0.out HD.out) (Nat.pow_pos (by have := H2.out; omega))
  have HMS := Jfg (Fn.out.val hX)
  obtain ⟨Q, r, hQ, hr, he, CD⟩ := Jdk X q hX HQ.out (by have := H2.out; omega)
  have HCD := Jfg CD; have HE := Jfg he; have HR := Jfg hr; have HQ1 := Jfg hQ; have HX0 := Jfg hX0
  have eqz := eqZ r (Nat.lt_trans hr HQ.out)
  clear CD he hr hQ hX hX0 hXM
  have Ln := Fn.out.lt
  have cn0 := Fn.out.c0; have cn1 := Fn.out.c1; have cn2 := Fn.out.c2; have cn3 := Fn.out.c3
  have Lq := Fq.out.lt
  have cq0 := Fq.out.c0; have cq1 := Fq.out.c1; have cq2 := Fq.out.c2; have cq3 := Fq.out.c3
  go_wp2_with fail
  clear Ln cn0 cn1 cn2 cn3 Lq cq0 cq1 cq2 cq3
  have EQZ := Jfg eqz
  clear eqz
  refine (HCD.out _).mono ?_
  rintro e v4 ⟨rfl, z4⟩
  have Nn := Jfg (Fn.out.on z4)
  have Nq := Jfg (Fq.out.on z4)
  have Nz := Jfg (Fz.out.on z4)
  have Np := Jfg (Fp.out.on z4)
  have NB := Jfg (bel_tr BW.out z4)
  clear BW z4 Fn Fq Fz Fp
  have Fn := Nn
  have Fq := Nq
  have Fz := Nz
  have Fp := Np
  have BW := NB
  clear NB Nn Nq Nz Np
  go_upto_region 3 with fail
  have Dno : gn ≠ v4.heap.size := by have := Fn.out.lt; omega
  have Dqo : gq ≠ v4.heap.size := by have := Fq.out.lt; omega
  have Dzo : gz ≠ v4.heap.size := by have := Fz.out.lt; omega
  have Dpo : gp ≠ v4.heap.size := by have := Fp.out.lt; omega
  have Dnl : gn ≠ v4.heap.size + 1 := by have := Fn.out.lt; omega
  have Dql : gq ≠ v4.heap.size + 1 := by have := Fq.out.lt; omega
  have Dzl : gz ≠ v4.heap.size + 1 := by have := Fz.out.lt; omega
  have Dpl : gp ≠ v4.heap.size + 1 := by have := Fp.out.lt; omega
  generalize hW5 : ((v4.alloc (.cells (ncs Q) 24)).alloc (.cells (ncs r) 24)) = W5 at *
  have No : At W5 (v4.heap.size) _ _ := Jb hW5 ((At.at_ _ _ _ _ (by simp)).alloc _)
  have Nl : At W5 (v4.heap.size + 1) _ _ := Jb hW5 (At.at_ _ _ _ _ (by simp))
  have Nn := Jb hW5 ((Fn.out.alloc _).alloc _)
  have Nq := Jb hW5 ((Fq.out.alloc _).alloc _)
  have Nz := Jb hW5 ((Fz.out.alloc _).alloc _)
  have Np := Jb hW5 ((Fp.out.alloc _).alloc _)
  have NB := gr_of hW5 (gr_alloc (gr_alloc BW.out _) _)
  clear hW5 BW Fn Fq Fz Fp
  generalize v4.heap.size + 1 = gl at *
  generalize v4.heap.size = go at *
  have Fn := Jfg Nn
  have Fq := Jfg Nq
  have Fz := Jfg Nz
  have Fp := Jfg Np
  have Fo := Jfg No
  have Fl := Jfg Nl
  have BW := Jfg NB
  clear NB Nn Nq Nz Np No Nl
  have eqz := EQZ.out
  by_cases hz : r = 0
  ·rw [decide_eq_true hz] at eqz
   have HZ := Jfg hz
   clear hz
   have hstep := (pow_step HD.out (Q := Q) (by rw [← HX.out, HE.out, HZ.out])).resolve_right (by have := H2.out; omega)
   have hpl : P * q ≤ M := by rw [HP.out, ← Nat.pow_succ]; exact Nat.le_of_dvd H0.out hstep.1
   obtain ⟨Lo, Hi, hLo, hHi, hm, CM⟩ := Xc P q (Nat.lt_of_le_of_lt (by rw [HP.out]; exact Nat.le_of_dvd H0.out HD.out) HMM.out) HQ.out
   have hM := HMM.out
   have hH0 : Hi = 0 := by omega
   subst hH0
   have hLo2 : Lo = q ^ (e + 1) := by rw [Nat.pow_succ, ← HP.out]; omega
   have HCM := Jfg CM; have HL := Jfg hLo2; have HS := Jfg hstep
   clear CM hLo2 hstep hM hm hHi hLo hpl
   have Ll := Fl.out.lt
   have cl0 := Fl.out.c0; have cl1 := Fl.out.c1; have cl2 := Fl.out.c2; have cl3 := Fl.out.c3
   have Lo := Fo.out.lt
   have co0 := Fo.out.c0; have co1 := Fo.out.c1; have co2 := Fo.out.c2; have co3 := Fo.out.c3
   have Ln := Fn.out.lt
   have cn0 := Fn.out.c0; have cn1 := Fn.out.c1; have cn2 := Fn.out.c2; have cn3 := Fn.out.c3
   obtain ⟨fn0, fn1, fn2, fn3⟩ := Vb Fn.out
   go_upto_region 6 with fail
   clear Ll cl0 cl1 cl2 cl3 Lo co0 co1 co2 co3 Ln cn0 cn1 cn2 cn3 fn0 fn1 fn2 fn3
   generalize hW6 : ((((W5.setCell ⟨gn, 0, none⟩ (.int .u64 (wd Q 0))).setCell ⟨gn, 1, none⟩ (.int .u64 (wd Q 1))).setCell ⟨gn, 2, none⟩ (.int .u64 (wd Q 2))).setCell ⟨gn, 3, none⟩ (.int .u64 (wd Q 3))) = W6 at *
   have Nn := Jb hW6 ((Fn.out).put4 _ _ _ _)
   have Nq := Jb hW6 ((Fq.out).far4 Dnq.symm _ _ _ _)
   have Nz := Jb hW6 ((Fz.out).far4 Dnz.symm _ _ _ _)
   have Np := Jb hW6 ((Fp.out).far4 Dnp.symm _ _ _ _)
   have No := Jb hW6 ((Fo.out).far4 Dno.symm _ _ _ _)
   have Nl := Jb hW6 ((Fl.out).far4 Dnl.symm _ _ _ _)
   have NB := gr_of hW6 (((((BW.out).setCell En _).setCell En _).setCell En _).setCell En _)
   clear hW6 BW Fn Fq Fz Fp Fo Fl
   have Fn := Jfg Nn
   have Fq := Jfg Nq
   have Fz := Jfg Nz
   have Fp := Jfg Np
   have Fo := Jfg No
   have Fl := Jfg Nl
   have BW := Jfg NB
   clear NB Nn Nq Nz Np No Nl
   have Lp := Fp.out.lt
   have cp0 := Fp.out.c0; have cp1 := Fp.out.c1; have cp2 := Fp.out.c2; have cp3 := Fp.out.c3
   have Lq := Fq.out.lt
   have cq0 := Fq.out.c0; have cq1 := Fq.out.c1; have cq2 := Fq.out.c2; have cq3 := Fq.out.c3
   go_wp2_with fail
   clear Lp cp0 cp1 cp2 cp3 Lq cq0 cq1 cq2 cq3
   refine (HCM.out _).mono ?_
   rintro e v7 ⟨rfl, z7⟩
   have Nn := Jfg (Fn.out.on z7)
   have Nq := Jfg (Fq.out.on z7)
   have Nz := Jfg (Fz.out.on z7)
   have Np := Jfg (Fp.out.on z7)
   have No := Jfg (Fo.out.on z7)
   have Nl := Jfg (Fl.out.on z7)
   have NB := Jfg (bel_tr BW.out z7)
   clear BW z7 Fn Fq Fz Fp Fo Fl
   have Fn := Nn
   have Fq := Nq
   have Fz := Nz
   have Fp := Np
   have Fo := No
   have Fl := Nl
   have BW := NB
   clear NB Nn Nq Nz Np No Nl
   have Lp := Fp.out.lt
   have cp0 := Fp.out.c0; have cp1 := Fp.out.c1; have cp2 := Fp.out.c2; have cp3 := Fp.out.c3
   obtain ⟨fp0, fp1, fp2, fp3⟩ := Vb Fp.out
   go_wp2_with fail
   clear Lp cp0 cp1 cp2 cp3 fp0 fp1 fp2 fp3
   generalize hW8 : ((((v7.setCell ⟨gp, 0, none⟩ (.int .u64 (wd Lo 0))).setCell ⟨gp, 1, none⟩ (.int .u64 (wd Lo 1))).setCell ⟨gp, 2, none⟩ (.int .u64 (wd Lo 2))).setCell ⟨gp, 3, none⟩ (.int .u64 (wd Lo 3))) = W8 at *
   have Nn := Jb hW8 ((Fn.out).far4 Dnp _ _ _ _)
   have Nq := Jb hW8 ((Fq.out).far4 Dqp _ _ _ _)
   have Nz := Jb hW8 ((Fz.out).far4 Dzp _ _ _ _)
   have Np := Jb hW8 ((Fp.out).put4 _ _ _ _)
   have No := Jb hW8 ((Fo.out).far4 Dpo.symm _ _ _ _)
   have Nl := Jb hW8 ((Fl.out).far4 Dpl.symm _ _ _ _)
   have NB := gr_of hW8 (((((BW.out).setCell Ep _).setCell Ep _).setCell Ep _).setCell Ep _)
   clear hW8 BW Fn Fq Fz Fp Fo Fl
   have Fn := Jfg Nn
   have Fq := Jfg Nq
   have Fz := Jfg Nz
   have Fp := Jfg Np
   have Fo := Jfg No
   have Fl := Jfg Nl
   have BW := Jfg NB
   clear NB Nn Nq Nz Np No Nl
   go_roundw
   case rel => exact ⟨e + 1, Q, Lo, Fn.out, Fq.out, Fz.out, Fp.out, BW.out, HS.out.2.symm, HL.out, HS.out.1⟩
   case measure =>
    rw [HMS.out, Fn.out.val HQ1.out, HE.out, HZ.out]
    have hx := HX0.out; have he := HE.out; have hz := HZ.out; have h2 := H2.out
    have : 2 * Q ≤ Q * q := by rw [Nat.mul_comm Q q]; exact Nat.mul_le_mul_right _ h2
    omega
  ·rw [decide_eq_false hz] at eqz
   have HZ := Jfg hz
   clear hz
   have Ll := Fl.out.lt
   have cl0 := Fl.out.c0; have cl1 := Fl.out.c1; have cl2 := Fl.out.c2; have cl3 := Fl.out.c3
   have Lp := Fp.out.lt
   have cp0 := Fp.out.c0; have cp1 := Fp.out.c1; have cp2 := Fp.out.c2; have cp3 := Fp.out.c3
   have Lz := Fz.out.lt
   have cz0 := Fz.out.c0; have cz1 := Fz.out.c1; have cz2 := Fz.out.c2; have cz3 := Fz.out.c3
   obtain ⟨fz0, fz1, fz2, fz3⟩ := Vb Fz.out
   go_wp2_with fail
   clear Ll cl0 cl1 cl2 cl3 Lp cp0 cp1 cp2 cp3 Lz cz0 cz1 cz2 cz3 fz0 fz1 fz2 fz3
   generalize hW6 : ((((W5.setCell ⟨gz, 0, none⟩ (.int .u64 (wd P 0))).setCell ⟨gz, 1, none⟩ (.int .u64 (wd P 1))).setCell ⟨gz, 2, none⟩ (.int .u64 (wd P 2))).setCell ⟨gz, 3, none⟩ (.int .u64 (wd P 3))) = W6 at *
   have Nn := Jb hW6 ((Fn.out).far4 Dnz _ _ _ _)
   have Nq := Jb hW6 ((Fq.out).far4 Dqz _ _ _ _)
   have Nz := Jb hW6 ((Fz.out).put4 _ _ _ _)
   have Np := Jb hW6 ((Fp.out).far4 Dzp.symm _ _ _ _)
   have No := Jb hW6 ((Fo.out).far4 Dzo.symm _ _ _ _)
   have Nl := Jb hW6 ((Fl.out).far4 Dzl.symm _ _ _ _)
   have NB := gr_of hW6 (((((BW.out).setCell Ez _).setCell Ez _).setCell Ez _).setCell Ez _)
   clear hW6 BW Fn Fq Fz Fp Fo Fl
   have Fn := Jfg Nn
   have Fq := Jfg Nq
   have Fz := Jfg Nz
   have Fp := Jfg Np
   have Fo := Jfg No
   have Fl := Jfg Nl
   have BW := Jfg NB
   clear NB Nn Nq Nz Np No Nl
   have Lz := Fz.out.lt
   have cz0 := Fz.out.c0; have cz1 := Fz.out.c1; have cz2 := Fz.out.c2; have cz3 := Fz.out.c3
   have HV := pow_last H2.out H0.out HD.out (by rw [← HX.out]; exact HE.out) HR.out HZ.out
   exact bodyPost_ret (v := num P) (by simp [results, Tryz.results88, go_sem, *]) rfl ⟨by rw [HV, HP.out], BW.out⟩
theorem rcommon_any (DV : ∀ X Y : Nat, X < 2 ^ 256 → Y < 2 ^ 256 → Y ≠ 0 → ∃ Q r : Nat, r < Y ∧ X = Q * Y + r ∧ ∀ w, Calls Tryz.prog 33 #[num X, num Y] w fun e w' => e = .returned (.tuple #[num Q, num r, .int .i64 0]) ∧ Below w.heap.size w w')
  (A B : Nat) (hA : A < 2 ^ 256) (hB : B < 2 ^ 256) (w : World) : Calls Tryz.prog 73 #[num A, num B] w fun e w' => e = .returned (num (Nat.gcd A B)) ∧ Below w.heap.size w w' := by
 have HDV := Jfg DV
 clear DV
 go_enter Tryz.func73, Tryz.ntmps73
 go_wp2_with fail
 have BW := Jfg (Below.refl w.heap.size w)
 generalize hW1 : (((w.alloc (.cells (ncs A) 24)).alloc (.cells (ncs B) 24)).alloc (.cells #[.int .u64 0, .int .u64 0, .int .u64 0, .int .u64 0] 24)) = W1 at *
 have Na : At W1 (w.heap.size) _ _ := Jb hW1 (((At.at_ _ _ _ _ (by simp)).alloc _).alloc _)
 have Nb : At W1 (w.heap.size + 1) _ _ := Jb hW1 ((At.at_ _ _ _ _ (by simp)).alloc _)
 have Eb : w.heap.size ≤ w.heap.size + 1 := by have := BW.out.size; omega
 have Dab : w.heap.size ≠ w.heap.size + 1 := by omega
 have Nq : At W1 (w.heap.size + 1 + 1) _ _ := Jb hW1 (At.at_ _ _ _ _ (by simp))
 have Eq : w.heap.size ≤ w.heap.size + 1 + 1 := by have := BW.out.size; omega
 have Daq : w.heap.size ≠ w.heap.size + 1 + 1 := by omega
 have Dbq : w.heap.size + 1 ≠ w.heap.size + 1 + 1 := by omega
 have NB := gr_of hW1 (gr_alloc (gr_alloc (gr_alloc BW.out _) _) _)
 clear BW
 clear hW1
 generalize w.heap.size + 1 + 1 = gq at *
 generalize w.heap.size + 1 = gb at *
 obtain ⟨ga, hg0⟩ : ∃ g, g = w.heap.size := ⟨_, rfl⟩
 rw [← hg0] at Na ⊢
 rw [← hg0] at Dab Daq
 have Ea : w.heap.size ≤ ga := by omega
 clear hg0
 have Fa := Jfg Na
 have Fb := Jfg Nb
 have Fq := Jfg Nq
 have BW := Jfg NB
 clear NB Na Nb Nq
 go_loopw [] (fun wr => ∃ X Y : Nat, X < 2 ^ 256 ∧ Y < 2 ^ 256 ∧ Hid (At wr ga 24 (ncs X) ∧ At wr gb 24 (ncs Y) ∧ At wr gq 24 #[.int .u64 0, .int .u64 0, .int .u64 0, .int .u64 0] ∧ Below w.heap.size w wr ∧ Nat.gcd X Y = Nat.gcd A B)) (fun wr => Jaa wr gb)
 case atStart => exact ⟨A, B, hA, hB, Fa.out, Fb.out, Fq.out, BW.out, rfl⟩
 case round =>
  obtain ⟨X, Y, hX, hY, hM⟩ := hrel
  clear Fa Fb Fq BW
  have HMS := Jfg (hM.out.2.1.val hY)
  have eqz := eqZ Y hY
  by_cases hy : Y = 0
  ·have Fa := Jfg hM.out.1; have Fb := Jfg hM.out.2.1; have Fq := Jfg hM.out.2.2.1; have BW := Jfg hM.out.2.2.2.1; have HG := Jfg hM.out.2.2.2.2
   clear hM
   rw [decide_eq_true hy] at eqz
   have HY0 := Jfg hy
   clear hy
   have Lb := Fb.out.lt
   have cb0 := Fb.out.c0; have cb1 := Fb.out.c1; have cb2 := Fb.out.c2; have cb3 := Fb.out.c3
   have La := Fa.out.lt
   have ca0 := Fa.out.c0; have ca1 := Fa.out.c1; have ca2 := Fa.out.c2; have ca3 := Fa.out.c3
   have Lq := Fq.out.lt
   have cq0 : wr.cell? ⟨gq, 0, none⟩ = some (.int .u64 0) := Fq.out.cell 0
   have cq1 : wr.cell? ⟨gq, 1, none⟩ = some (.int .u64 0) := Fq.out.cell 1
   have cq2 : wr.cell? ⟨gq, 2, none⟩ = some (.int .u64 0) := Fq.out.cell 2
   have cq3 : wr.cell? ⟨gq, 3, none⟩ = some (.int .u64 0) := Fq.out.cell 3
   obtain ⟨fq0, fq1, fq2, fq3⟩ := Vb Fq.out
   go_wp2_with (simp only [eqz])
   generalize hW2 : ((((wr.setCell ⟨gq, 0, none⟩ (.int .u64 (wd X 0))).setCell ⟨gq, 1, none⟩ (.int .u64 (wd X 1))).setCell ⟨gq, 2, none⟩ (.int .u64 (wd X 2))).setCell ⟨gq, 3, none⟩ (.int .u64 (wd X 3))) = W2 at *
   clear Lb cb0 cb1 cb2 cb3 La ca0 ca1 ca2 ca3 Lq cq0 cq1 cq2 cq3 fq0 fq1 fq2 fq3
   have Na_0 := Jb hW2 ((Fa.out).far4 Daq _ _ _ _)
   have Nb_0 := Jb hW2 ((Fb.out).far4 Dbq _ _ _ _)
   have Nq_0 := Jb hW2 ((Fq.out).put4 _ _ _ _)
   have NB_0 := gr_of hW2 (((((BW.out).setCell Eq _).setCell Eq _).setCell Eq _).setCell Eq _)
   have Na := Na_0
   have Nb := Nb_0
   have Nq := Nq_0
   have NB := NB_0
   clear BW Fa Fb Fq Na_0 Nb_0 Nq_0 NB_0
   clear hW2
   have Fa := Jfg Na
   have Fb := Jfg Nb
   have Fq := Jfg Nq
   have BW := Jfg NB
   clear NB Na Nb Nq
   have Lq := Fq.out.lt
   have cq0 := Fq.out.c0; have cq1 := Fq.out.c1; have cq2 := Fq.out.c2; have cq3 := Fq.out.c3
   refine bodyPost_ret (v := num X) (by simp [results, Tryz.results73, go_sem, *]) rfl ⟨by rw [← HG.out, HY0.out, Nat.gcd_zero_right], BW.out⟩
  ·obtain ⟨Q, r, hr, he, C⟩ := HDV.out X Y hX hY hy
   rw [decide_eq_false hy] at eqz
   have HC := Jfg C; have HE := Jfg he; have HR := Jfg hr; have HY := Jfg hY
   clear C he hr hY hy
   have Fa := Jfg hM.out.1; have Fb := Jfg hM.out.2.1; have Fq := Jfg hM.out.2.2.1; have BW := Jfg hM.out.2.2.2.1; have HG := Jfg hM.out.2.2.2.2
   clear hM
   have La := Fa.out.lt
   have ca0 := Fa.out.c0; have ca1 := Fa.out.c1; have ca2 := Fa.out.c2; have ca3 := Fa.out.c3
   have Lb := Fb.out.lt
   have cb0 := Fb.out.c0; have cb1 := Fb.out.c1; have cb2 := Fb.out.c2; have cb3 := Fb.out.c3
   go_wp2_with (simp only [eqz])
   clear La ca0 ca1 ca2 ca3 Lb cb0 cb1 cb2 cb3
   refine (HC.out _).mono ?_
   rintro e v3 ⟨rfl, z3⟩
   have Na := Jfg (Fa.out.on z3)
   have Nb := Jfg (Fb.out.on z3)
   have Nq := Jfg (Fq.out.on z3)
   have NB := Jfg (bel_tr BW.out z3)
   clear BW z3 Fa Fb Fq
   have Fa := Na
   have Fb := Nb
   have Fq := Nq
   have BW := NB
   clear NB Na Nb Nq
   have Lb := Fb.out.lt
   have cb0 := Fb.out.c0; have cb1 := Fb.out.c1; have cb2 := Fb.out.c2; have cb3 := Fb.out.c3
   have La := Fa.out.lt
   have ca0 := Fa.out.c0; have ca1 := Fa.out.c1; have ca2 := Fa.out.c2; have ca3 := Fa.out.c3
   obtain ⟨fa0, fa1, fa2, fa3⟩ := Vb Fa.out
   have Lb := Fb.out.lt
   have cb0 := Fb.out.c0; have cb1 := Fb.out.c1; have cb2 := Fb.out.c2; have cb3 := Fb.out.c3
   have Lb := Fb.out.lt
   have cb0 := Fb.out.c0; have cb1 := Fb.out.c1; have cb2 := Fb.out.c2; have cb3 := Fb.out.c3
   obtain ⟨fb0, fb1, fb2, fb3⟩ := Vb Fb.out
   go_wp2_with fail
   generalize hW4 : ((((((((v3.setCell ⟨ga, 0, none⟩ (.int .u64 (wd Y 0))).setCell ⟨ga, 1, none⟩ (.int .u64 (wd Y 1))).setCell ⟨ga, 2, none⟩ (.int .u64 (wd Y 2))).setCell ⟨ga, 3, none⟩ (.int .u64 (wd Y 3))).setCell ⟨gb, 0, none⟩ (.int .u64 (wd r 0))).setCell ⟨gb, 1, none⟩ (.int .u64 (wd r 1))).setCell ⟨gb, 2, none⟩ (.int .u64 (wd r 2))).setCell ⟨gb, 3, none⟩ (.int .u64 (wd r 3))) = W4 at *
   clear Lb cb0 cb1 cb2 cb3 La ca0 ca1 ca2 ca3 fa0 fa1 fa2 fa3 fb0 fb1 fb2 fb3
   have Na_1 := Jb hW4 ((((Fa.out).put4 _ _ _ _)).far4 Dab _ _ _ _)
   have Nb_1 := Jb hW4 ((((Fb.out).far4 Dab.symm _ _ _ _)).put4 _ _ _ _)
   have Nq_1 := Jb hW4 ((((Fq.out).far4 Daq.symm _ _ _ _)).far4 Dbq.symm _ _ _ _)
   have NB_1 := gr_of hW4 ((((((((((BW.out).setCell Ea _).setCell Ea _).setCell Ea _).setCell Ea _)).setCell Eb _).setCell Eb _).setCell Eb _).setCell Eb _)
   have Na := Na_1
   have Nb := Nb_1
   have Nq := Nq_1
   have NB := NB_1
   clear BW Fa Fb Fq Na_1 Nb_1 Nq_1 NB_1
   clear hW4
   have Fa := Jfg Na
   have Fb := Jfg Nb
   have Fq := Jfg Nq
   have BW := Jfg NB
   generalize hW5 : ((W4.alloc (.cells (ncs Q) 24)).alloc (.cells (ncs r) 24)) = W5 at *
   clear NB Na Nb Nq
   have Nh : At W5 (W4.heap.size) _ _ := Jb hW5 ((At.at_ _ _ _ _ (by simp)).alloc _)
   have Dah : ga ≠ W4.heap.size := by have := Fa.out.lt; omega
   have Dbh : gb ≠ W4.heap.size := by have := Fb.out.lt; omega
   have Dqh : gq ≠ W4.heap.size := by have := Fq.out.lt; omega
   have Nl : At W5 (W4.heap.size + 1) _ _ := Jb hW5 (At.at_ _ _ _ _ (by simp))
   have Dal : ga ≠ W4.heap.size + 1 := by have := Fa.out.lt; omega
   have Dbl : gb ≠ W4.heap.size + 1 := by have := Fb.out.lt; omega
   have Dql : gq ≠ W4.heap.size + 1 := by have := Fq.out.lt; omega
   have Na := Jb hW5 ((Fa.out.alloc _).alloc _)
   have Nb := Jb hW5 ((Fb.out.alloc _).alloc _)
   have Nq := Jb hW5 ((Fq.out.alloc _).alloc _)
   have NB := gr_of hW5 (gr_alloc (gr_alloc BW.out _) _)
   clear BW Fa Fb Fq
   clear hW5
   generalize W4.heap.size + 1 = gl at *
   generalize W4.heap.size = gh at *
   have Fa := Jfg Na
   have Fb := Jfg Nb
   have Fq := Jfg Nq
   have Fh := Jfg Nh
   have Fl := Jfg Nl
   have BW := Jfg NB
   clear NB Na Nb Nq Nh Nl
   go_roundw
   case rel =>
    have hr := HR.out
    have hY := HY.out
    refine ⟨Y, r, hY, by omega, Fa.out, Fb.out, Fq.out, BW.out, ?_⟩
    rw [← HG.out, HE.out, Nat.gcd_comm (Q * Y + r), Nat.mul_comm Q Y]
    simp
   case measure =>
    have hr := HR.out
    have hY := HY.out
    rw [HMS.out, Fb.out.val (by omega)]; exact hr
end Go.Proofs.YtodlpmepoakdlaaGreat
