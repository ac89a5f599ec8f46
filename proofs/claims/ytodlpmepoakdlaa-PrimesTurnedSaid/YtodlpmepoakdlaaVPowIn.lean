/-
  primes.powerIn: the greatest power of a number above 1 that divides another one, above 0.
-/
import Derived.Deep.Cut
import Derived.Test.YtodlpmepoakdlaaVCommon
import Derived.Test.YtodlpmepoakdlaaVLen
import Derived.Test.YtodlpmepoakdlaaVRsn
import Derived.Test.YtodlpmepoakdlaaVSmall
import Derived.Test.YtodlpmepoakdlaaVWide
namespace Go.Proofs.Ytodlpmepoakdlaa
set_option maxRecDepth 100000
open Go.RowKit
set_option linter.unusedSimpArgs false
set_option linter.unusedVariables false
attribute [local go_sem ↓] Go.wp_at_zero Go.wp_at_succ

/-- one power more -/
theorem pow_step {m q e Q : Nat} (hd : q ^ e ∣ m) (h : m / q ^ e = Q * q + 0) : q ^ (e + 1) ∣ m ∧ m / q ^ (e + 1) = Q ∨ q = 0 := by
  rcases Nat.eq_zero_or_pos q with h0 | h0
  · exact Or.inr h0
  · refine Or.inl ?_
    have hm : m = q ^ (e + 1) * Q := by
      have h1 := Nat.mul_div_cancel' hd
      rw [h, Nat.add_zero] at h1
      rw [← h1, Nat.pow_succ, Nat.mul_assoc, Nat.mul_comm Q q]
    refine ⟨⟨Q, hm⟩, ?_⟩
    rw [hm, Nat.mul_div_cancel_left _ (Nat.pow_pos h0)]
theorem pow_last {m q e Q r : Nat} (h2 : 2 ≤ q) (h0 : 0 < m) (hd : q ^ e ∣ m) (h : m / q ^ e = Q * q + r) (hr : r < q) (hne : r ≠ 0) : Pr.gp q m = q ^ e := by
  refine Pr.gp_of h2 h0 hd fun hd2 => ?_
  obtain ⟨c, hc⟩ := hd2
  have hp : 0 < q ^ e := Nat.pow_pos (by omega)
  have : m / q ^ e = q * c := by rw [hc, Nat.mul_assoc, Nat.mul_div_cancel_left _ hp]
  rw [this] at h
  have h3 : q * c % q = (Q * q + r) % q := by rw [h]
  rw [Nat.mul_mod_right, Nat.mul_comm, Nat.mul_add_mod, Nat.mod_eq_of_lt hr] at h3
  omega

set_option maxRecDepth 100000 in
set_option maxHeartbeats 8000000 in
theorem powin_any (M q : Nat) (h0 : 0 < M) (hM : M < 2 ^ 256) (h2 : 2 ≤ q) (hq : q < 2 ^ 256) (w : World) : Calls Try.prog 70 #[num M, num q] w fun e w' => e = .returned (num (Pr.gp q M)) ∧ Below w.heap.size w w' := by
  have HO := Lib.hid (fun w => of_any 1 (by decide) w)
  have H0 := Lib.hid h0; have HMM := Lib.hid hM; have H2 := Lib.hid h2; have HQ := Lib.hid hq
  clear h0 hM h2 hq
  go_enter Try.func70, Try.ntmps70
  go_wp2_with fail
  have BW := Lib.hid (Below.refl w.heap.size w)
  have Eq : w.heap.size ≤ w.heap.size + 1 := by have := BW.out.size; omega
  have Dnq : w.heap.size ≠ w.heap.size + 1 := by omega
  have Ez : w.heap.size ≤ w.heap.size + 1 + 1 := by have := BW.out.size; omega
  have Dnz : w.heap.size ≠ w.heap.size + 1 + 1 := by omega
  have Dqz : w.heap.size + 1 ≠ w.heap.size + 1 + 1 := by omega
  generalize hW1 : (((w.alloc (.cells #[.int .u64 (wd M 0 : Nat), .int .u64 (wd M 1 : Nat), .int .u64 (wd M 2 : Nat), .int .u64 (wd M 3 : Nat)] 24)).alloc (.cells #[.int .u64 (wd q 0 : Nat), .int .u64 (wd q 1 : Nat), .int .u64 (wd q 2 : Nat), .int .u64 (wd q 3 : Nat)] 24)).alloc (.cells #[.int .u64 0, .int .u64 0, .int .u64 0, .int .u64 0] 24)) = W1 at *
  have Nn : At W1 (w.heap.size) _ _ := at_of hW1 (((At.at_ _ _ _ _ (by simp)).alloc _).alloc _)
  have Nq : At W1 (w.heap.size + 1) _ _ := at_of hW1 ((At.at_ _ _ _ _ (by simp)).alloc _)
  have Nz : At W1 (w.heap.size + 1 + 1) _ _ := at_of hW1 (At.at_ _ _ _ _ (by simp))
  have NB := gr_of hW1 (gr_alloc (gr_alloc (gr_alloc BW.out _) _) _)
  clear hW1 BW 
  generalize w.heap.size + 1 + 1 = gz at *
  generalize w.heap.size + 1 = gq at *
  obtain ⟨gn, hg0⟩ : ∃ g, g = w.heap.size := ⟨_, rfl⟩
  rw [← hg0] at Nn ⊢
  rw [← hg0] at Dnq Dnz
  have En : w.heap.size ≤ gn := by omega
  clear hg0
  have Fn := Lib.hid Nn
  have Fq := Lib.hid Nq
  have Fz := Lib.hid Nz
  have BW := Lib.hid NB
  clear NB Nn Nq Nz
  refine (HO.out _).mono ?_
  rintro e v2 ⟨rfl, z2⟩
  have Nn := Lib.hid (Fn.out.on z2)
  have Nq := Lib.hid (Fq.out.on z2)
  have Nz := Lib.hid (Fz.out.on z2)
  have NB := Lib.hid (bel_tr BW.out z2)
  clear BW z2 Fn Fq Fz
  have Fn := Nn
  have Fq := Nq
  have Fz := Nz
  have BW := NB
  clear NB Nn Nq Nz
  go_wp2_with fail
  have Ep : w.heap.size ≤ v2.heap.size := by have := BW.out.size; omega
  have Dnp : gn ≠ v2.heap.size := by have := Fn.out.lt; omega
  have Dqp : gq ≠ v2.heap.size := by have := Fq.out.lt; omega
  have Dzp : gz ≠ v2.heap.size := by have := Fz.out.lt; omega
  generalize hW3 : (v2.alloc (.cells #[.int .u64 (wd 1 0 : Nat), .int .u64 (wd 1 1 : Nat), .int .u64 (wd 1 2 : Nat), .int .u64 (wd 1 3 : Nat)] 24)) = W3 at *
  have Np : At W3 (v2.heap.size) _ _ := at_of hW3 (At.at_ _ _ _ _ (by simp))
  have Nn := at_of hW3 (Fn.out.alloc _)
  have Nq := at_of hW3 (Fq.out.alloc _)
  have Nz := at_of hW3 (Fz.out.alloc _)
  have NB := gr_of hW3 (gr_alloc BW.out _)
  clear hW3 BW Fn Fq Fz
  generalize v2.heap.size = gp at *
  have Fn := Lib.hid Nn
  have Fq := Lib.hid Nq
  have Fz := Lib.hid Nz
  have Fp := Lib.hid Np
  have BW := Lib.hid NB
  clear NB Nn Nq Nz Np
  go_loopw [] (fun wr => ∃ e X P : Nat, Hid (At wr gn 24 #[.int .u64 (wd X 0 : Nat), .int .u64 (wd X 1 : Nat), .int .u64 (wd X 2 : Nat), .int .u64 (wd X 3 : Nat)] ∧ At wr gq 24 #[.int .u64 (wd q 0 : Nat), .int .u64 (wd q 1 : Nat), .int .u64 (wd q 2 : Nat), .int .u64 (wd q 3 : Nat)] ∧ At wr gz 24 #[.int .u64 0, .int .u64 0, .int .u64 0, .int .u64 0] ∧ At wr gp 24 #[.int .u64 (wd P 0 : Nat), .int .u64 (wd P 1 : Nat), .int .u64 (wd P 2 : Nat), .int .u64 (wd P 3 : Nat)] ∧ Below w.heap.size w wr ∧ (X = M / q ^ e) ∧ (P = q ^ e) ∧ (q ^ e ∣ M))) (fun wr => blockVal wr gn)
  case atStart => exact ⟨0, M, 1, Fn.out, Fq.out, Fz.out, Fp.out, BW.out, by simp, by simp, by simp⟩
  case round =>
    obtain ⟨e, X, P, hM⟩ := hrel
    clear BW Fn Fq Fz Fp
    have Fn := Lib.hid hM.out.1
    have Fq := Lib.hid hM.out.2.1
    have Fz := Lib.hid hM.out.2.2.1
    have Fp := Lib.hid hM.out.2.2.2.1
    have BW := Lib.hid hM.out.2.2.2.2.1
    have HX := Lib.hid hM.out.2.2.2.2.2.1
    have HP := Lib.hid hM.out.2.2.2.2.2.2.1
    have HD := Lib.hid hM.out.2.2.2.2.2.2.2
    clear hM
    have hXM : X ≤ M := by rw [HX.out]; exact Nat.div_le_self _ _
    have hX : X < 2 ^ 256 := Nat.lt_of_le_of_lt hXM HMM.out
    have hX0 : 0 < X := by
      rw [HX.out]; exact Nat.div_pos (Nat.le_of_dvd H0.out HD.out) (Nat.pow_pos (by have := H2.out; omega))
    have HMS := Lib.hid (Fn.out.val hX)
    obtain ⟨Q, r, hQ, hr, he, CD⟩ := div_ex X q hX HQ.out (by have := H2.out; omega)
    have HCD := Lib.hid CD; have HE := Lib.hid he; have HR := Lib.hid hr; have HQ1 := Lib.hid hQ; have HX0 := Lib.hid hX0
    have eqz := eqZ r (Nat.lt_trans hr HQ.out)
    clear CD he hr hQ hX hX0 hXM
    have Ln := Fn.out.lt
    have cn0 := Fn.out.c0
    have cn1 := Fn.out.c1
    have cn2 := Fn.out.c2
    have cn3 := Fn.out.c3
    have Lq := Fq.out.lt
    have cq0 := Fq.out.c0
    have cq1 := Fq.out.c1
    have cq2 := Fq.out.c2
    have cq3 := Fq.out.c3
    go_wp2_with fail
    clear Ln cn0 cn1 cn2 cn3 Lq cq0 cq1 cq2 cq3
    have EQZ := Lib.hid eqz
    clear eqz
    refine (HCD.out _).mono ?_
    rintro e v4 ⟨rfl, z4⟩
    have Nn := Lib.hid (Fn.out.on z4)
    have Nq := Lib.hid (Fq.out.on z4)
    have Nz := Lib.hid (Fz.out.on z4)
    have Np := Lib.hid (Fp.out.on z4)
    have NB := Lib.hid (bel_tr BW.out z4)
    clear BW z4 Fn Fq Fz Fp
    have Fn := Nn
    have Fq := Nq
    have Fz := Nz
    have Fp := Np
    have BW := NB
    clear NB Nn Nq Nz Np
    go_upto_region 3 with fail
    have Dno : gn ≠ v4.heap.size := by have := Fn.out.lt; omega
    have Dqo : gq ≠ v4.heap.size := by have := Fq.out.lt; omega
    have Dzo : gz ≠ v4.heap.size := by have := Fz.out.lt; omega
    have Dpo : gp ≠ v4.heap.size := by have := Fp.out.lt; omega
    have Dnl : gn ≠ v4.heap.size + 1 := by have := Fn.out.lt; omega
    have Dql : gq ≠ v4.heap.size + 1 := by have := Fq.out.lt; omega
    have Dzl : gz ≠ v4.heap.size + 1 := by have := Fz.out.lt; omega
    have Dpl : gp ≠ v4.heap.size + 1 := by have := Fp.out.lt; omega
    generalize hW5 : ((v4.alloc (.cells #[.int .u64 (wd Q 0 : Nat), .int .u64 (wd Q 1 : Nat), .int .u64 (wd Q 2 : Nat), .int .u64 (wd Q 3 : Nat)] 24)).alloc (.cells #[.int .u64 (wd r 0 : Nat), .int .u64 (wd r 1 : Nat), .int .u64 (wd r 2 : Nat), .int .u64 (wd r 3 : Nat)] 24)) = W5 at *
    have No : At W5 (v4.heap.size) _ _ := at_of hW5 ((At.at_ _ _ _ _ (by simp)).alloc _)
    have Nl : At W5 (v4.heap.size + 1) _ _ := at_of hW5 (At.at_ _ _ _ _ (by simp))
    have Nn := at_of hW5 ((Fn.out.alloc _).alloc _)
    have Nq := at_of hW5 ((Fq.out.alloc _).alloc _)
    have Nz := at_of hW5 ((Fz.out.alloc _).alloc _)
    have Np := at_of hW5 ((Fp.out.alloc _).alloc _)
    have NB := gr_of hW5 (gr_alloc (gr_alloc BW.out _) _)
    clear hW5 BW Fn Fq Fz Fp
    generalize v4.heap.size + 1 = gl at *
    generalize v4.heap.size = go at *
    have Fn := Lib.hid Nn
    have Fq := Lib.hid Nq
    have Fz := Lib.hid Nz
    have Fp := Lib.hid Np
    have Fo := Lib.hid No
    have Fl := Lib.hid Nl
    have BW := Lib.hid NB
    clear NB Nn Nq Nz Np No Nl
    have eqz := EQZ.out
    by_cases hz : r = 0
    · rw [decide_eq_true hz] at eqz
      have HZ := Lib.hid hz
      clear hz
      have hstep := (pow_step HD.out (Q := Q) (by rw [← HX.out, HE.out, HZ.out])).resolve_right (by have := H2.out; omega)
      have hpl : P * q ≤ M := by rw [HP.out, ← Nat.pow_succ]; exact Nat.le_of_dvd H0.out hstep.1
      obtain ⟨Lo, Hi, hLo, hHi, hm, CM⟩ := mul_ex P q (Nat.lt_of_le_of_lt (by rw [HP.out]; exact Nat.le_of_dvd H0.out HD.out) HMM.out) HQ.out
      have hM := HMM.out
      have hH0 : Hi = 0 := by omega
      subst hH0
      have hLo2 : Lo = q ^ (e + 1) := by rw [Nat.pow_succ, ← HP.out]; omega
      have HCM := Lib.hid CM; have HL := Lib.hid hLo2; have HS := Lib.hid hstep
      clear CM hLo2 hstep hM hm hHi hLo hpl
      have Ll := Fl.out.lt
      have cl0 := Fl.out.c0
      have cl1 := Fl.out.c1
      have cl2 := Fl.out.c2
      have cl3 := Fl.out.c3
      have Lo := Fo.out.lt
      have co0 := Fo.out.c0
      have co1 := Fo.out.c1
      have co2 := Fo.out.c2
      have co3 := Fo.out.c3
      have Ln := Fn.out.lt
      have cn0 := Fn.out.c0
      have cn1 := Fn.out.c1
      have cn2 := Fn.out.c2
      have cn3 := Fn.out.c3
      have fn0 : W5.frozen? ⟨gn, 0, none⟩ = false := Fn.out.frozen 0
      have fn1 : W5.frozen? ⟨gn, 1, none⟩ = false := Fn.out.frozen 1
      have fn2 : W5.frozen? ⟨gn, 2, none⟩ = false := Fn.out.frozen 2
      have fn3 : W5.frozen? ⟨gn, 3, none⟩ = false := Fn.out.frozen 3
      go_upto_region 6 with fail
      clear Ll cl0 cl1 cl2 cl3 Lo co0 co1 co2 co3 Ln cn0 cn1 cn2 cn3 fn0 fn1 fn2 fn3
      generalize hW6 : ((((W5.setCell ⟨gn, 0, none⟩ (.int .u64 (wd Q 0 : Nat))).setCell ⟨gn, 1, none⟩ (.int .u64 (wd Q 1 : Nat))).setCell ⟨gn, 2, none⟩ (.int .u64 (wd Q 2 : Nat))).setCell ⟨gn, 3, none⟩ (.int .u64 (wd Q 3 : Nat))) = W6 at *
      have Nn := at_of hW6 ((Fn.out).put4 _ _ _ _)
      have Nq := at_of hW6 ((Fq.out).far4 Dnq.symm _ _ _ _)
      have Nz := at_of hW6 ((Fz.out).far4 Dnz.symm _ _ _ _)
      have Np := at_of hW6 ((Fp.out).far4 Dnp.symm _ _ _ _)
      have No := at_of hW6 ((Fo.out).far4 Dno.symm _ _ _ _)
      have Nl := at_of hW6 ((Fl.out).far4 Dnl.symm _ _ _ _)
      have NB := gr_of hW6 (((((BW.out).setCell En _).setCell En _).setCell En _).setCell En _)
      clear hW6 BW Fn Fq Fz Fp Fo Fl
      have Fn := Lib.hid Nn
      have Fq := Lib.hid Nq
      have Fz := Lib.hid Nz
      have Fp := Lib.hid Np
      have Fo := Lib.hid No
      have Fl := Lib.hid Nl
      have BW := Lib.hid NB
      clear NB Nn Nq Nz Np No Nl
      have Lp := Fp.out.lt
      have cp0 := Fp.out.c0
      have cp1 := Fp.out.c1
      have cp2 := Fp.out.c2
      have cp3 := Fp.out.c3
      have Lq := Fq.out.lt
      have cq0 := Fq.out.c0
      have cq1 := Fq.out.c1
      have cq2 := Fq.out.c2
      have cq3 := Fq.out.c3
      go_wp2_with fail
      clear Lp cp0 cp1 cp2 cp3 Lq cq0 cq1 cq2 cq3
      refine (HCM.out _).mono ?_
      rintro e v7 ⟨rfl, z7⟩
      have Nn := Lib.hid (Fn.out.on z7)
      have Nq := Lib.hid (Fq.out.on z7)
      have Nz := Lib.hid (Fz.out.on z7)
      have Np := Lib.hid (Fp.out.on z7)
      have No := Lib.hid (Fo.out.on z7)
      have Nl := Lib.hid (Fl.out.on z7)
      have NB := Lib.hid (bel_tr BW.out z7)
      clear BW z7 Fn Fq Fz Fp Fo Fl
      have Fn := Nn
      have Fq := Nq
      have Fz := Nz
      have Fp := Np
      have Fo := No
      have Fl := Nl
      have BW := NB
      clear NB Nn Nq Nz Np No Nl
      have Lp := Fp.out.lt
      have cp0 := Fp.out.c0
      have cp1 := Fp.out.c1
      have cp2 := Fp.out.c2
      have cp3 := Fp.out.c3
      have fp0 : v7.frozen? ⟨gp, 0, none⟩ = false := Fp.out.frozen 0
      have fp1 : v7.frozen? ⟨gp, 1, none⟩ = false := Fp.out.frozen 1
      have fp2 : v7.frozen? ⟨gp, 2, none⟩ = false := Fp.out.frozen 2
      have fp3 : v7.frozen? ⟨gp, 3, none⟩ = false := Fp.out.frozen 3
      go_wp2_with fail
      clear Lp cp0 cp1 cp2 cp3 fp0 fp1 fp2 fp3
      generalize hW8 : ((((v7.setCell ⟨gp, 0, none⟩ (.int .u64 (wd Lo 0 : Nat))).setCell ⟨gp, 1, none⟩ (.int .u64 (wd Lo 1 : Nat))).setCell ⟨gp, 2, none⟩ (.int .u64 (wd Lo 2 : Nat))).setCell ⟨gp, 3, none⟩ (.int .u64 (wd Lo 3 : Nat))) = W8 at *
      have Nn := at_of hW8 ((Fn.out).far4 Dnp _ _ _ _)
      have Nq := at_of hW8 ((Fq.out).far4 Dqp _ _ _ _)
      have Nz := at_of hW8 ((Fz.out).far4 Dzp _ _ _ _)
      have Np := at_of hW8 ((Fp.out).put4 _ _ _ _)
      have No := at_of hW8 ((Fo.out).far4 Dpo.symm _ _ _ _)
      have Nl := at_of hW8 ((Fl.out).far4 Dpl.symm _ _ _ _)
      have NB := gr_of hW8 (((((BW.out).setCell Ep _).setCell Ep _).setCell Ep _).setCell Ep _)
      clear hW8 BW Fn Fq Fz Fp Fo Fl
      have Fn := Lib.hid Nn
      have Fq := Lib.hid Nq
      have Fz := Lib.hid Nz
      have Fp := Lib.hid Np
      have Fo := Lib.hid No
      have Fl := Lib.hid Nl
      have BW := Lib.hid NB
      clear NB Nn Nq Nz Np No Nl
      go_roundw
      case rel => exact ⟨e + 1, Q, Lo, Fn.out, Fq.out, Fz.out, Fp.out, BW.out, HS.out.2.symm, HL.out, HS.out.1⟩
      case measure =>
        rw [HMS.out, Fn.out.val HQ1.out, HE.out, HZ.out]
        have hx := HX0.out; have he := HE.out; have hz := HZ.out; have h2 := H2.out
        have : 2 * Q ≤ Q * q := by rw [Nat.mul_comm Q q]; exact Nat.mul_le_mul_right _ h2
        omega
    · rw [decide_eq_false hz] at eqz
      have HZ := Lib.hid hz
      clear hz
      have Ll := Fl.out.lt
      have cl0 := Fl.out.c0
      have cl1 := Fl.out.c1
      have cl2 := Fl.out.c2
      have cl3 := Fl.out.c3
      have Lp := Fp.out.lt
      have cp0 := Fp.out.c0
      have cp1 := Fp.out.c1
      have cp2 := Fp.out.c2
      have cp3 := Fp.out.c3
      have Lz := Fz.out.lt
      have cz0 := Fz.out.c0
      have cz1 := Fz.out.c1
      have cz2 := Fz.out.c2
      have cz3 := Fz.out.c3
      have fz0 : W5.frozen? ⟨gz, 0, none⟩ = false := Fz.out.frozen 0
      have fz1 : W5.frozen? ⟨gz, 1, none⟩ = false := Fz.out.frozen 1
      have fz2 : W5.frozen? ⟨gz, 2, none⟩ = false := Fz.out.frozen 2
      have fz3 : W5.frozen? ⟨gz, 3, none⟩ = false := Fz.out.frozen 3
      go_wp2_with fail
      clear Ll cl0 cl1 cl2 cl3 Lp cp0 cp1 cp2 cp3 Lz cz0 cz1 cz2 cz3 fz0 fz1 fz2 fz3
      generalize hW6 : ((((W5.setCell ⟨gz, 0, none⟩ (.int .u64 (wd P 0 : Nat))).setCell ⟨gz, 1, none⟩ (.int .u64 (wd P 1 : Nat))).setCell ⟨gz, 2, none⟩ (.int .u64 (wd P 2 : Nat))).setCell ⟨gz, 3, none⟩ (.int .u64 (wd P 3 : Nat))) = W6 at *
      have Nn := at_of hW6 ((Fn.out).far4 Dnz _ _ _ _)
      have Nq := at_of hW6 ((Fq.out).far4 Dqz _ _ _ _)
      have Nz := at_of hW6 ((Fz.out).put4 _ _ _ _)
      have Np := at_of hW6 ((Fp.out).far4 Dzp.symm _ _ _ _)
      have No := at_of hW6 ((Fo.out).far4 Dzo.symm _ _ _ _)
      have Nl := at_of hW6 ((Fl.out).far4 Dzl.symm _ _ _ _)
      have NB := gr_of hW6 (((((BW.out).setCell Ez _).setCell Ez _).setCell Ez _).setCell Ez _)
      clear hW6 BW Fn Fq Fz Fp Fo Fl
      have Fn := Lib.hid Nn
      have Fq := Lib.hid Nq
      have Fz := Lib.hid Nz
      have Fp := Lib.hid Np
      have Fo := Lib.hid No
      have Fl := Lib.hid Nl
      have BW := Lib.hid NB
      clear NB Nn Nq Nz Np No Nl
      have Lz := Fz.out.lt
      have cz0 := Fz.out.c0
      have cz1 := Fz.out.c1
      have cz2 := Fz.out.c2
      have cz3 := Fz.out.c3
      have HV := pow_last H2.out H0.out HD.out (by rw [← HX.out]; exact HE.out) HR.out HZ.out
      exact bodyPost_ret (v := num P) (by simp [results, Try.results70, go_sem, *]) rfl ⟨by rw [HV, HP.out], BW.out⟩
end Go.Proofs.Ytodlpmepoakdlaa
