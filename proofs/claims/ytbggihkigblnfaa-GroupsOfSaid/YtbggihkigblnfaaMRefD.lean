/-
 balefireref04.Exp.
-/
import Derived.Test.YtbggihkigblnfaaMRefC
import Derived.Test.YtbggihkigblnfaaMTree
namespace Go.Proofs.Ytbggihkigblnfaa
open Go.RowKit
set_option linter.unusedSimpArgs false
set_option linter.unusedVariables false
attribute [local go_sem ↓] Go.wp_at_zero Go.wp_at_succ

set_option maxRecDepth 100000 in
set_option maxHeartbeats 8000000 in
theorem re_w (A N M V : Nat)
  (cm : ∀ w, Calls Try.prog 62 #[num A, num A, num M] w fun e w' => e = .returned (.bool true) ∧ Below w.heap.size w w')
  (cw : ∀ w, Calls Try.prog 68 #[num M] w fun e w' => e = .returned (.bool true) ∧ Below w.heap.size w w')
  (cp : ∀ w, Calls Try.prog 69 #[.int .u64 (wd A 0 : Nat), num N, .int .u64 (wd M 0 : Nat)] w fun e w' => e = .returned (.int .u64 (V : Nat)) ∧ Below w.heap.size w w')
  (co : ∀ w, Calls Try.prog 65 #[.int .u64 (V : Nat)] w fun e w' => e = .returned (num V) ∧ Below w.heap.size w w')
  (w : World) : Calls Try.prog 43 #[num A, num N, num M] w fun e w' => e = .returned (.tuple #[num V, .int .i64 0]) ∧ Below w.heap.size w w' := by
 have Hcm := Lib.hid cm
 have Hcw := Lib.hid cw
 have Hcp := Lib.hid cp
 have Hco := Lib.hid co
 clear cm cw cp co
 go_enter Try.func43, Try.ntmps43
 go_wp2_with fail
 have BW := Lib.hid (Below.refl w.heap.size w)
 have Ex : w.heap.size ≤ w.heap.size + 1 + 1 + 1 := by have := BW.out.size; omega
 have Dax : w.heap.size ≠ w.heap.size + 1 + 1 + 1 := by omega
 have Dnx : w.heap.size + 1 ≠ w.heap.size + 1 + 1 + 1 := by omega
 have Dmx : w.heap.size + 1 + 1 ≠ w.heap.size + 1 + 1 + 1 := by omega
 generalize hW1 : ((((w.alloc (.cells #[.int .u64 (wd A 0 : Nat), .int .u64 (wd A 1 : Nat), .int .u64 (wd A 2 : Nat), .int .u64 (wd A 3 : Nat)] 24)).alloc (.cells #[.int .u64 (wd N 0 : Nat), .int .u64 (wd N 1 : Nat), .int .u64 (wd N 2 : Nat), .int .u64 (wd N 3 : Nat)] 24)).alloc (.cells #[.int .u64 (wd M 0 : Nat), .int .u64 (wd M 1 : Nat), .int .u64 (wd M 2 : Nat), .int .u64 (wd M 3 : Nat)] 24)).alloc (.cells #[.int .u64 0, .int .u64 0, .int .u64 0, .int .u64 0] 24)) = W1 at *
 have Na : At W1 (w.heap.size) _ _ := at_of hW1 ((((At.at_ _ _ _ _ (by simp)).alloc _).alloc _).alloc _)
 have Nn : At W1 (w.heap.size + 1) _ _ := at_of hW1 (((At.at_ _ _ _ _ (by simp)).alloc _).alloc _)
 have Nm : At W1 (w.heap.size + 1 + 1) _ _ := at_of hW1 ((At.at_ _ _ _ _ (by simp)).alloc _)
 have Nx : At W1 (w.heap.size + 1 + 1 + 1) _ _ := at_of hW1 (At.at_ _ _ _ _ (by simp))
 have NB := gr_of hW1 (gr_alloc (gr_alloc (gr_alloc (gr_alloc BW.out _) _) _) _)
 clear hW1 BW 
 generalize w.heap.size + 1 + 1 + 1 = gx at *
 generalize w.heap.size + 1 + 1 = gm at *
 generalize w.heap.size + 1 = gn at *
 obtain ⟨ga, hg0⟩ : ∃ g, g = w.heap.size := ⟨_, rfl⟩
 rw [← hg0] at Na ⊢
 rw [← hg0] at Dax
 clear hg0
 have Fa := Lib.hid Na
 have Fn := Lib.hid Nn
 have Fm := Lib.hid Nm
 have Fx := Lib.hid Nx
 have BW := Lib.hid NB
 clear NB Na Nn Nm Nx
 refine (Hcm.out _).mono ?_
 rintro e v2 ⟨rfl, z2⟩
 have Na := Lib.hid (Fa.out.on z2)
 have Nn := Lib.hid (Fn.out.on z2)
 have Nm := Lib.hid (Fm.out.on z2)
 have Nx := Lib.hid (Fx.out.on z2)
 have NB := Lib.hid (bel_tr BW.out z2)
 clear BW z2 Fa Fn Fm Fx
 have Fa := Na
 have Fn := Nn
 have Fm := Nm
 have Fx := Nx
 have BW := NB
 clear NB Na Nn Nm Nx
 have Lm := Fm.out.lt
 have cm0 := Fm.out.c0
 have cm1 := Fm.out.c1
 have cm2 := Fm.out.c2
 have cm3 := Fm.out.c3
 go_wp2_with fail
 clear Lm cm0 cm1 cm2 cm3
 refine (Hcw.out _).mono ?_
 rintro e v3 ⟨rfl, z3⟩
 have Na := Lib.hid (Fa.out.on z3)
 have Nn := Lib.hid (Fn.out.on z3)
 have Nm := Lib.hid (Fm.out.on z3)
 have Nx := Lib.hid (Fx.out.on z3)
 have NB := Lib.hid (bel_tr BW.out z3)
 clear BW z3 Fa Fn Fm Fx
 have Fa := Na
 have Fn := Nn
 have Fm := Nm
 have Fx := Nx
 have BW := NB
 clear NB Na Nn Nm Nx
 have La := Fa.out.lt
 have ca0 := Fa.out.c0
 have ca1 := Fa.out.c1
 have ca2 := Fa.out.c2
 have ca3 := Fa.out.c3
 have Ln := Fn.out.lt
 have cn0 := Fn.out.c0
 have cn1 := Fn.out.c1
 have cn2 := Fn.out.c2
 have cn3 := Fn.out.c3
 have Lm := Fm.out.lt
 have cm0 := Fm.out.c0
 have cm1 := Fm.out.c1
 have cm2 := Fm.out.c2
 have cm3 := Fm.out.c3
 go_wp2_with fail
 clear La ca0 ca1 ca2 ca3 Ln cn0 cn1 cn2 cn3 Lm cm0 cm1 cm2 cm3
 refine (Hcp.out _).mono ?_
 rintro e v4 ⟨rfl, z4⟩
 have Na := Lib.hid (Fa.out.on z4)
 have Nn := Lib.hid (Fn.out.on z4)
 have Nm := Lib.hid (Fm.out.on z4)
 have Nx := Lib.hid (Fx.out.on z4)
 have NB := Lib.hid (bel_tr BW.out z4)
 clear BW z4 Fa Fn Fm Fx
 have Fa := Na
 have Fn := Nn
 have Fm := Nm
 have Fx := Nx
 have BW := NB
 clear NB Na Nn Nm Nx
 go_wp2_with fail
 refine (Hco.out _).mono ?_
 rintro e v5 ⟨rfl, z5⟩
 have Na := Lib.hid (Fa.out.on z5)
 have Nn := Lib.hid (Fn.out.on z5)
 have Nm := Lib.hid (Fm.out.on z5)
 have Nx := Lib.hid (Fx.out.on z5)
 have NB := Lib.hid (bel_tr BW.out z5)
 clear BW z5 Fa Fn Fm Fx
 have Fa := Na
 have Fn := Nn
 have Fm := Nm
 have Fx := Nx
 have BW := NB
 clear NB Na Nn Nm Nx
 have Lx := Fx.out.lt
 have cx0 := Fx.out.c0
 have cx1 := Fx.out.c1
 have cx2 := Fx.out.c2
 have cx3 := Fx.out.c3
 have fx0 : v5.frozen? ⟨gx, 0, none⟩ = false := Fx.out.frozen 0
 have fx1 : v5.frozen? ⟨gx, 1, none⟩ = false := Fx.out.frozen 1
 have fx2 : v5.frozen? ⟨gx, 2, none⟩ = false := Fx.out.frozen 2
 have fx3 : v5.frozen? ⟨gx, 3, none⟩ = false := Fx.out.frozen 3
 go_wp2_with fail
 clear Lx cx0 cx1 cx2 cx3 fx0 fx1 fx2 fx3
 generalize hW6 : ((((v5.setCell ⟨gx, 0, none⟩ (.int .u64 (wd V 0 : Nat))).setCell ⟨gx, 1, none⟩ (.int .u64 (wd V 1 : Nat))).setCell ⟨gx, 2, none⟩ (.int .u64 (wd V 2 : Nat))).setCell ⟨gx, 3, none⟩ (.int .u64 (wd V 3 : Nat))) = W6 at *
 have Na := at_of hW6 ((Fa.out).far4 Dax _ _ _ _)
 have Nn := at_of hW6 ((Fn.out).far4 Dnx _ _ _ _)
 have Nm := at_of hW6 ((Fm.out).far4 Dmx _ _ _ _)
 have Nx := at_of hW6 ((Fx.out).put4 _ _ _ _)
 have NB := gr_of hW6 (((((BW.out).setCell Ex _).setCell Ex _).setCell Ex _).setCell Ex _)
 clear hW6 BW Fa Fn Fm Fx
 have Fa := Lib.hid Na
 have Fn := Lib.hid Nn
 have Fm := Lib.hid Nm
 have Fx := Lib.hid Nx
 have BW := Lib.hid NB
 clear NB Na Nn Nm Nx
 have Lx := Fx.out.lt
 have cx0 := Fx.out.c0
 have cx1 := Fx.out.c1
 have cx2 := Fx.out.c2
 have cx3 := Fx.out.c3
 refine bodyPost_ret (v := .tuple #[num V, .int .i64 0]) (by simp [results, Try.results43, go_sem, *]) rfl ⟨rfl, BW.out⟩

set_option maxRecDepth 100000 in
set_option maxHeartbeats 8000000 in
theorem re_l (A N M V : Nat) (hA : A < M) (h1 : 1 < M) (hM : M < 2 ^ 256) (hN : N < 2 ^ 256) (hV : V = A ^ N % M)
  (cm : ∀ w, Calls Try.prog 62 #[num A, num A, num M] w fun e w' => e = .returned (.bool true) ∧ Below w.heap.size w w') (cw : ∀ w, Calls Try.prog 68 #[num M] w fun e w' => e = .returned (.bool false) ∧ Below w.heap.size w w') (cT : ∀ x y, x < M → y < M → ∀ w, Calls Try.prog 63 #[num x, num y, num M] w fun e w' => e = .returned (num (x * y % M)) ∧ Below w.heap.size w w') (w : World) : Calls Try.prog 43 #[num A, num N, num M] w fun e w' => e = .returned (.tuple #[num V, .int .i64 0]) ∧ Below w.heap.size w w' := by
 have IB := rbits_any N hN
 obtain ⟨m, hm⟩ : ∃ m, Go.bitLen N = m := ⟨_, rfl⟩
 have hm256 : m ≤ 256 := by rw [← hm]; exact bl_le' N hN
 have hNm : N < 2 ^ m := by rw [← hm]; exact (Go.bitLen_spec N).1
 rw [hm] at IB
 have gmw : IntKind.i64.wrap ((m : Int) - 1) = (m : Int) - 1 := by rw [IntKind.wrap_i64]; omega
 have IO : ∀ w, Calls Try.prog 65 #[.int .u64 1] w fun e w' => e = .returned (num 1) ∧ Below w.heap.size w w' := fun w => rof1_any 1 (by decide) w
 have HIB := Lib.hid IB; have HNM := Lib.hid hNm; have HA := Lib.hid hA; have H1 := Lib.hid h1; have HM := Lib.hid hM; have HN := Lib.hid hN; have HV := Lib.hid hV
 have Hcm := Lib.hid cm; have Hcw := Lib.hid cw; have HT := Lib.hid cT; have HIO := Lib.hid IO
 clear IB hNm hA h1 hM hN hV hm cm cw cT IO
 go_enter Try.func43, Try.ntmps43
 go_wp2_with fail
 have BW := Lib.hid (Below.refl w.heap.size w)
 have Ex : w.heap.size ≤ w.heap.size + 1 + 1 + 1 := by have := BW.out.size; omega
 have Dax : w.heap.size ≠ w.heap.size + 1 + 1 + 1 := by omega
 have Dnx : w.heap.size + 1 ≠ w.heap.size + 1 + 1 + 1 := by omega
 have Dmx : w.heap.size + 1 + 1 ≠ w.heap.size + 1 + 1 + 1 := by omega
 generalize hW1 : ((((w.alloc (.cells #[.int .u64 (wd A 0 : Nat), .int .u64 (wd A 1 : Nat), .int .u64 (wd A 2 : Nat), .int .u64 (wd A 3 : Nat)] 24)).alloc (.cells #[.int .u64 (wd N 0 : Nat), .int .u64 (wd N 1 : Nat), .int .u64 (wd N 2 : Nat), .int .u64 (wd N 3 : Nat)] 24)).alloc (.cells #[.int .u64 (wd M 0 : Nat), .int .u64 (wd M 1 : Nat), .int .u64 (wd M 2 : Nat), .int .u64 (wd M 3 : Nat)] 24)).alloc (.cells #[.int .u64 0, .int .u64 0, .int .u64 0, .int .u64 0] 24)) = W1 at *
 have Na : At W1 (w.heap.size) _ _ := at_of hW1 ((((At.at_ _ _ _ _ (by simp)).alloc _).alloc _).alloc _)
 have Nn : At W1 (w.heap.size + 1) _ _ := at_of hW1 (((At.at_ _ _ _ _ (by simp)).alloc _).alloc _)
 have Nm : At W1 (w.heap.size + 1 + 1) _ _ := at_of hW1 ((At.at_ _ _ _ _ (by simp)).alloc _)
 have Nx : At W1 (w.heap.size + 1 + 1 + 1) _ _ := at_of hW1 (At.at_ _ _ _ _ (by simp))
 have NB := gr_of hW1 (gr_alloc (gr_alloc (gr_alloc (gr_alloc BW.out _) _) _) _)
 clear hW1 BW 
 generalize w.heap.size + 1 + 1 + 1 = gx at *
 generalize w.heap.size + 1 + 1 = gm at *
 generalize w.heap.size + 1 = gn at *
 obtain ⟨ga, hg0⟩ : ∃ g, g = w.heap.size := ⟨_, rfl⟩
 rw [← hg0] at Na ⊢
 rw [← hg0] at Dax
 clear hg0
 have Fa := Lib.hid Na
 have Fn := Lib.hid Nn
 have Fm := Lib.hid Nm
 have Fx := Lib.hid Nx
 have BW := Lib.hid NB
 clear NB Na Nn Nm Nx
 refine (Hcm.out _).mono ?_
 rintro e v2 ⟨rfl, z2⟩
 have Na := Lib.hid (Fa.out.on z2)
 have Nn := Lib.hid (Fn.out.on z2)
 have Nm := Lib.hid (Fm.out.on z2)
 have Nx := Lib.hid (Fx.out.on z2)
 have NB := Lib.hid (bel_tr BW.out z2)
 clear BW z2 Fa Fn Fm Fx
 have Fa := Na
 have Fn := Nn
 have Fm := Nm
 have Fx := Nx
 have BW := NB
 clear NB Na Nn Nm Nx
 have Lm := Fm.out.lt
 have cm0 := Fm.out.c0
 have cm1 := Fm.out.c1
 have cm2 := Fm.out.c2
 have cm3 := Fm.out.c3
 go_wp2_with fail
 clear Lm cm0 cm1 cm2 cm3
 refine (Hcw.out _).mono ?_
 rintro e v3 ⟨rfl, z3⟩
 have Na := Lib.hid (Fa.out.on z3)
 have Nn := Lib.hid (Fn.out.on z3)
 have Nm := Lib.hid (Fm.out.on z3)
 have Nx := Lib.hid (Fx.out.on z3)
 have NB := Lib.hid (bel_tr BW.out z3)
 clear BW z3 Fa Fn Fm Fx
 have Fa := Na
 have Fn := Nn
 have Fm := Nm
 have Fx := Nx
 have BW := NB
 clear NB Na Nn Nm Nx
 go_wp2_with fail
 refine (HIO.out _).mono ?_
 rintro e v4 ⟨rfl, z4⟩
 have Na := Lib.hid (Fa.out.on z4)
 have Nn := Lib.hid (Fn.out.on z4)
 have Nm := Lib.hid (Fm.out.on z4)
 have Nx := Lib.hid (Fx.out.on z4)
 have NB := Lib.hid (bel_tr BW.out z4)
 clear BW z4 Fa Fn Fm Fx
 have Fa := Na
 have Fn := Nn
 have Fm := Nm
 have Fx := Nx
 have BW := NB
 clear NB Na Nn Nm Nx
 have Ln := Fn.out.lt
 have cn0 := Fn.out.c0
 have cn1 := Fn.out.c1
 have cn2 := Fn.out.c2
 have cn3 := Fn.out.c3
 go_wp2_with fail
 clear Ln cn0 cn1 cn2 cn3
 have Ep : w.heap.size ≤ v4.heap.size := by have := BW.out.size; omega
 have Dap : ga ≠ v4.heap.size := by have := Fa.out.lt; omega
 have Dnp : gn ≠ v4.heap.size := by have := Fn.out.lt; omega
 have Dmp : gm ≠ v4.heap.size := by have := Fm.out.lt; omega
 have Dxp : gx ≠ v4.heap.size := by have := Fx.out.lt; omega
 generalize hW5 : (v4.alloc (.cells #[.int .u64 (wd 1 0 : Nat), .int .u64 (wd 1 1 : Nat), .int .u64 (wd 1 2 : Nat), .int .u64 (wd 1 3 : Nat)] 24)) = W5 at *
 have Np : At W5 (v4.heap.size) _ _ := at_of hW5 (At.at_ _ _ _ _ (by simp))
 have Na := at_of hW5 (Fa.out.alloc _)
 have Nn := at_of hW5 (Fn.out.alloc _)
 have Nm := at_of hW5 (Fm.out.alloc _)
 have Nx := at_of hW5 (Fx.out.alloc _)
 have NB := gr_of hW5 (gr_alloc BW.out _)
 clear hW5 BW Fa Fn Fm Fx
 generalize v4.heap.size = gp at *
 have Fa := Lib.hid Na
 have Fn := Lib.hid Nn
 have Fm := Lib.hid Nm
 have Fx := Lib.hid Nx
 have Fp := Lib.hid Np
 have BW := Lib.hid NB
 clear NB Na Nn Nm Nx Np
 refine (HIB.out _).mono ?_
 rintro e v6 ⟨rfl, z6⟩
 have Na := Lib.hid (Fa.out.on z6)
 have Nn := Lib.hid (Fn.out.on z6)
 have Nm := Lib.hid (Fm.out.on z6)
 have Nx := Lib.hid (Fx.out.on z6)
 have Np := Lib.hid (Fp.out.on z6)
 have NB := Lib.hid (bel_tr BW.out z6)
 clear BW z6 Fa Fn Fm Fx Fp
 have Fa := Na
 have Fn := Nn
 have Fm := Nm
 have Fx := Nx
 have Fp := Np
 have BW := NB
 clear NB Na Nn Nm Nx Np
 go_wp2_with fail
 go_loopw [9] (fun b wr => ∃ i X : Nat, i ≤ m ∧ b = .int .i64 ((i : Int) - 1) ∧ Hid (At wr ga 24 #[.int .u64 (wd A 0 : Nat), .int .u64 (wd A 1 : Nat), .int .u64 (wd A 2 : Nat), .int .u64 (wd A 3 : Nat)] ∧ At wr gn 24 #[.int .u64 (wd N 0 : Nat), .int .u64 (wd N 1 : Nat), .int .u64 (wd N 2 : Nat), .int .u64 (wd N 3 : Nat)] ∧ At wr gm 24 #[.int .u64 (wd M 0 : Nat), .int .u64 (wd M 1 : Nat), .int .u64 (wd M 2 : Nat), .int .u64 (wd M 3 : Nat)] ∧ At wr gx 24 #[.int .u64 0, .int .u64 0, .int .u64 0, .int .u64 0] ∧ At wr gp 24 #[.int .u64 (wd X 0 : Nat), .int .u64 (wd X 1 : Nat), .int .u64 (wd X 2 : Nat), .int .u64 (wd X 3 : Nat)] ∧ Below w.heap.size w wr ∧ X = A ^ (N / 2 ^ i) % M)) (fun b _ => (intOf b + 1).toNat)
 case atStart =>
  refine ⟨m, 1, Nat.le_refl _, rfl, Fa.out, Fn.out, Fm.out, Fx.out, Fp.out, BW.out, ?_⟩
  rw [Nat.div_eq_of_lt HNM.out, Nat.pow_zero, Nat.mod_eq_of_lt H1.out]
 case round =>
  obtain ⟨i, X, hi, rfl, hM⟩ := hrel
  clear BW Fa Fn Fm Fx Fp
  have Fa := Lib.hid hM.out.1
  have Fn := Lib.hid hM.out.2.1
  have Fm := Lib.hid hM.out.2.2.1
  have Fx := Lib.hid hM.out.2.2.2.1
  have Fp := Lib.hid hM.out.2.2.2.2.1
  have BW := Lib.hid hM.out.2.2.2.2.2.1; have HX := Lib.hid hM.out.2.2.2.2.2.2
  clear hM
  by_cases h0 : i = 0
  ·subst h0
   have hr : X = V := by rw [HX.out, HV.out, Nat.pow_zero, Nat.div_one]
   subst hr
   have Lp := Fp.out.lt
   have cp0 := Fp.out.c0
   have cp1 := Fp.out.c1
   have cp2 := Fp.out.c2
   have cp3 := Fp.out.c3
   have Lx := Fx.out.lt
   have cx0 := Fx.out.c0
   have cx1 := Fx.out.c1
   have cx2 := Fx.out.c2
   have cx3 := Fx.out.c3
   have fx0 : wr.frozen? ⟨gx, 0, none⟩ = false := Fx.out.frozen 0
   have fx1 : wr.frozen? ⟨gx, 1, none⟩ = false := Fx.out.frozen 1
   have fx2 : wr.frozen? ⟨gx, 2, none⟩ = false := Fx.out.frozen 2
   have fx3 : wr.frozen? ⟨gx, 3, none⟩ = false := Fx.out.frozen 3
   go_wp2_with fail
   clear Lp cp0 cp1 cp2 cp3 Lx cx0 cx1 cx2 cx3 fx0 fx1 fx2 fx3
   generalize hW7 : ((((wr.setCell ⟨gx, 0, none⟩ (.int .u64 (wd X 0 : Nat))).setCell ⟨gx, 1, none⟩ (.int .u64 (wd X 1 : Nat))).setCell ⟨gx, 2, none⟩ (.int .u64 (wd X 2 : Nat))).setCell ⟨gx, 3, none⟩ (.int .u64 (wd X 3 : Nat))) = W7 at *
   have Na := at_of hW7 ((Fa.out).far4 Dax _ _ _ _)
   have Nn := at_of hW7 ((Fn.out).far4 Dnx _ _ _ _)
   have Nm := at_of hW7 ((Fm.out).far4 Dmx _ _ _ _)
   have Nx := at_of hW7 ((Fx.out).put4 _ _ _ _)
   have Np := at_of hW7 ((Fp.out).far4 Dxp.symm _ _ _ _)
   have NB := gr_of hW7 (((((BW.out).setCell Ex _).setCell Ex _).setCell Ex _).setCell Ex _)
   clear hW7 BW Fa Fn Fm Fx Fp
   have Fa := Lib.hid Na
   have Fn := Lib.hid Nn
   have Fm := Lib.hid Nm
   have Fx := Lib.hid Nx
   have Fp := Lib.hid Np
   have BW := Lib.hid NB
   clear NB Na Nn Nm Nx Np
   have Lx := Fx.out.lt
   have cx0 := Fx.out.c0
   have cx1 := Fx.out.c1
   have cx2 := Fx.out.c2
   have cx3 := Fx.out.c3
   exact bodyPost_ret (v := .tuple #[num X, .int .i64 0]) (by simp [results, Try.results43, go_sem, *]) rfl ⟨rfl, BW.out⟩
  ·obtain ⟨j, rfl⟩ : ∃ j, i = j + 1 := ⟨i - 1, by omega⟩
   have j256 : j < 256 := by omega
   have e1 : (((j + 1 : Nat) : Int) - 1) = (j : Nat) := by omega
   rw [e1]
   clear e1 h0
   have j0 : (0 : Int) ≤ (j : Int) := by omega
   have hMz : 0 < M := by have := H1.out; omega
   have hXM : X < M := by rw [HX.out]; exact Nat.mod_lt _ hMz
   have T1 := HT.out X X hXM hXM
   obtain ⟨Y, hY⟩ : ∃ Y, Y = X * X % M := ⟨_, rfl⟩
   rw [← hY] at T1
   have hYM : Y < M := by rw [hY]; exact Nat.mod_lt _ hMz
   have T2 := HT.out Y A hYM HA.out
   obtain ⟨Z, hZ⟩ : ∃ Z, Z = Y * A % M := ⟨_, rfl⟩
   rw [← hZ] at T2
   have hE : Y = A ^ (2 * (N / 2 ^ (j + 1))) % M := by rw [hY, HX.out, pw_square]
   have hbt : bt N (j : Int) = N / 2 ^ j % 2 := by unfold bt; rw [if_neg (by omega), Int.toNat_natCast]
   have CB := rbit_any N HN.out (j : Int)
   have hhalf := wide_half N j
   have h01 : N / 2 ^ j % 2 = 0 ∨ N / 2 ^ j % 2 = 1 := by omega
   have HT1 := Lib.hid T1; have HT2 := Lib.hid T2; have HE := Lib.hid hE; have HZ := Lib.hid hZ
   clear T1 T2 hE hZ hY hYM hMz hXM
   rcases h01 with hb | hb
   ·rw [hbt, hb] at CB
    have CB0 : ∀ w, Calls Try.prog 71 #[num N, .int .i64 (j : Nat)] w fun e w' => e = .returned (.int .u64 0) ∧ Below w.heap.size w w' := fun w => CB w
    have HCB := Lib.hid CB0; have HB := Lib.hid hb; have HH := Lib.hid hhalf
    clear CB CB0 hb hbt hhalf
    have Lp := Fp.out.lt
    have cp0 := Fp.out.c0
    have cp1 := Fp.out.c1
    have cp2 := Fp.out.c2
    have cp3 := Fp.out.c3
    have Lm := Fm.out.lt
    have cm0 := Fm.out.c0
    have cm1 := Fm.out.c1
    have cm2 := Fm.out.c2
    have cm3 := Fm.out.c3
    go_wp2_with fail
    clear Lp cp0 cp1 cp2 cp3 Lm cm0 cm1 cm2 cm3
    refine (HT1.out _).mono ?_
    rintro e v7 ⟨rfl, z7⟩
    have Na := Lib.hid (Fa.out.on z7)
    have Nn := Lib.hid (Fn.out.on z7)
    have Nm := Lib.hid (Fm.out.on z7)
    have Nx := Lib.hid (Fx.out.on z7)
    have Np := Lib.hid (Fp.out.on z7)
    have NB := Lib.hid (bel_tr BW.out z7)
    clear BW z7 Fa Fn Fm Fx Fp
    have Fa := Na
    have Fn := Nn
    have Fm := Nm
    have Fx := Nx
    have Fp := Np
    have BW := NB
    clear NB Na Nn Nm Nx Np
    have Lp := Fp.out.lt
    have cp0 := Fp.out.c0
    have cp1 := Fp.out.c1
    have cp2 := Fp.out.c2
    have cp3 := Fp.out.c3
    have fp0 : v7.frozen? ⟨gp, 0, none⟩ = false := Fp.out.frozen 0
    have fp1 : v7.frozen? ⟨gp, 1, none⟩ = false := Fp.out.frozen 1
    have fp2 : v7.frozen? ⟨gp, 2, none⟩ = false := Fp.out.frozen 2
    have fp3 : v7.frozen? ⟨gp, 3, none⟩ = false := Fp.out.frozen 3
    have Ln := Fn.out.lt
    have cn0 := Fn.out.c0
    have cn1 := Fn.out.c1
    have cn2 := Fn.out.c2
    have cn3 := Fn.out.c3
    go_wp2_with fail
    clear Lp cp0 cp1 cp2 cp3 fp0 fp1 fp2 fp3 Ln cn0 cn1 cn2 cn3
    generalize hW8 : ((((v7.setCell ⟨gp, 0, none⟩ (.int .u64 (wd Y 0 : Nat))).setCell ⟨gp, 1, none⟩ (.int .u64 (wd Y 1 : Nat))).setCell ⟨gp, 2, none⟩ (.int .u64 (wd Y 2 : Nat))).setCell ⟨gp, 3, none⟩ (.int .u64 (wd Y 3 : Nat))) = W8 at *
    have Na := at_of hW8 ((Fa.out).far4 Dap _ _ _ _)
    have Nn := at_of hW8 ((Fn.out).far4 Dnp _ _ _ _)
    have Nm := at_of hW8 ((Fm.out).far4 Dmp _ _ _ _)
    have Nx := at_of hW8 ((Fx.out).far4 Dxp _ _ _ _)
    have Np := at_of hW8 ((Fp.out).put4 _ _ _ _)
    have NB := gr_of hW8 (((((BW.out).setCell Ep _).setCell Ep _).setCell Ep _).setCell Ep _)
    clear hW8 BW Fa Fn Fm Fx Fp
    have Fa := Lib.hid Na
    have Fn := Lib.hid Nn
    have Fm := Lib.hid Nm
    have Fx := Lib.hid Nx
    have Fp := Lib.hid Np
    have BW := Lib.hid NB
    clear NB Na Nn Nm Nx Np
    refine (HCB.out _).mono ?_
    rintro e v9 ⟨rfl, z9⟩
    have Na := Lib.hid (Fa.out.on z9)
    have Nn := Lib.hid (Fn.out.on z9)
    have Nm := Lib.hid (Fm.out.on z9)
    have Nx := Lib.hid (Fx.out.on z9)
    have Np := Lib.hid (Fp.out.on z9)
    have NB := Lib.hid (bel_tr BW.out z9)
    clear BW z9 Fa Fn Fm Fx Fp
    have Fa := Na
    have Fn := Nn
    have Fm := Nm
    have Fx := Nx
    have Fp := Np
    have BW := NB
    clear NB Na Nn Nm Nx Np
    go_wp2_with fail
    go_roundw
    case rel =>
     have hrel : Y = A ^ (N / 2 ^ j) % M := by have e := HH.out; rw [HB.out] at e; rw [HE.out, e]; rfl
     first
      | exact ⟨j, Y, by omega, by go_num, Fa.out, Fn.out, Fm.out, Fx.out, Fp.out, BW.out, hrel⟩
      | ((repeat apply Exists.intro); exact ⟨⟨j, Y, by omega, by go_num, Fa.out, Fn.out, Fm.out, Fx.out, Fp.out, BW.out, hrel⟩, rfl⟩)
    case measure => (simp [intOf] <;> omega)
   ·rw [hbt, hb] at CB
    have CB0 : ∀ w, Calls Try.prog 71 #[num N, .int .i64 (j : Nat)] w fun e w' => e = .returned (.int .u64 1) ∧ Below w.heap.size w w' := fun w => CB w
    have HCB := Lib.hid CB0; have HB := Lib.hid hb; have HH := Lib.hid hhalf
    clear CB CB0 hb hbt hhalf
    have Lp := Fp.out.lt
    have cp0 := Fp.out.c0
    have cp1 := Fp.out.c1
    have cp2 := Fp.out.c2
    have cp3 := Fp.out.c3
    have Lm := Fm.out.lt
    have cm0 := Fm.out.c0
    have cm1 := Fm.out.c1
    have cm2 := Fm.out.c2
    have cm3 := Fm.out.c3
    go_wp2_with fail
    clear Lp cp0 cp1 cp2 cp3 Lm cm0 cm1 cm2 cm3
    refine (HT1.out _).mono ?_
    rintro e v7 ⟨rfl, z7⟩
    have Na := Lib.hid (Fa.out.on z7)
    have Nn := Lib.hid (Fn.out.on z7)
    have Nm := Lib.hid (Fm.out.on z7)
    have Nx := Lib.hid (Fx.out.on z7)
    have Np := Lib.hid (Fp.out.on z7)
    have NB := Lib.hid (bel_tr BW.out z7)
    clear BW z7 Fa Fn Fm Fx Fp
    have Fa := Na
    have Fn := Nn
    have Fm := Nm
    have Fx := Nx
    have Fp := Np
    have BW := NB
    clear NB Na Nn Nm Nx Np
    have Lp := Fp.out.lt
    have cp0 := Fp.out.c0
    have cp1 := Fp.out.c1
    have cp2 := Fp.out.c2
    have cp3 := Fp.out.c3
    have fp0 : v7.frozen? ⟨gp, 0, none⟩ = false := Fp.out.frozen 0
    have fp1 : v7.frozen? ⟨gp, 1, none⟩ = false := Fp.out.frozen 1
    have fp2 : v7.frozen? ⟨gp, 2, none⟩ = false := Fp.out.frozen 2
    have fp3 : v7.frozen? ⟨gp, 3, none⟩ = false := Fp.out.frozen 3
    have Ln := Fn.out.lt
    have cn0 := Fn.out.c0
    have cn1 := Fn.out.c1
    have cn2 := Fn.out.c2
    have cn3 := Fn.out.c3
    go_wp2_with fail
    clear Lp cp0 cp1 cp2 cp3 fp0 fp1 fp2 fp3 Ln cn0 cn1 cn2 cn3
    generalize hW8 : ((((v7.setCell ⟨gp, 0, none⟩ (.int .u64 (wd Y 0 : Nat))).setCell ⟨gp, 1, none⟩ (.int .u64 (wd Y 1 : Nat))).setCell ⟨gp, 2, none⟩ (.int .u64 (wd Y 2 : Nat))).setCell ⟨gp, 3, none⟩ (.int .u64 (wd Y 3 : Nat))) = W8 at *
    have Na := at_of hW8 ((Fa.out).far4 Dap _ _ _ _)
    have Nn := at_of hW8 ((Fn.out).far4 Dnp _ _ _ _)
    have Nm := at_of hW8 ((Fm.out).far4 Dmp _ _ _ _)
    have Nx := at_of hW8 ((Fx.out).far4 Dxp _ _ _ _)
    have Np := at_of hW8 ((Fp.out).put4 _ _ _ _)
    have NB := gr_of hW8 (((((BW.out).setCell Ep _).setCell Ep _).setCell Ep _).setCell Ep _)
    clear hW8 BW Fa Fn Fm Fx Fp
    have Fa := Lib.hid Na
    have Fn := Lib.hid Nn
    have Fm := Lib.hid Nm
    have Fx := Lib.hid Nx
    have Fp := Lib.hid Np
    have BW := Lib.hid NB
    clear NB Na Nn Nm Nx Np
    refine (HCB.out _).mono ?_
    rintro e v9 ⟨rfl, z9⟩
    have Na := Lib.hid (Fa.out.on z9)
    have Nn := Lib.hid (Fn.out.on z9)
    have Nm := Lib.hid (Fm.out.on z9)
    have Nx := Lib.hid (Fx.out.on z9)
    have Np := Lib.hid (Fp.out.on z9)
    have NB := Lib.hid (bel_tr BW.out z9)
    clear BW z9 Fa Fn Fm Fx Fp
    have Fa := Na
    have Fn := Nn
    have Fm := Nm
    have Fx := Nx
    have Fp := Np
    have BW := NB
    clear NB Na Nn Nm Nx Np
    have Lp := Fp.out.lt
    have cp0 := Fp.out.c0
    have cp1 := Fp.out.c1
    have cp2 := Fp.out.c2
    have cp3 := Fp.out.c3
    have La := Fa.out.lt
    have ca0 := Fa.out.c0
    have ca1 := Fa.out.c1
    have ca2 := Fa.out.c2
    have ca3 := Fa.out.c3
    have Lm := Fm.out.lt
    have cm0 := Fm.out.c0
    have cm1 := Fm.out.c1
    have cm2 := Fm.out.c2
    have cm3 := Fm.out.c3
    go_wp2_with fail
    clear Lp cp0 cp1 cp2 cp3 La ca0 ca1 ca2 ca3 Lm cm0 cm1 cm2 cm3
    refine (HT2.out _).mono ?_
    rintro e v10 ⟨rfl, z10⟩
    have Na := Lib.hid (Fa.out.on z10)
    have Nn := Lib.hid (Fn.out.on z10)
    have Nm := Lib.hid (Fm.out.on z10)
    have Nx := Lib.hid (Fx.out.on z10)
    have Np := Lib.hid (Fp.out.on z10)
    have NB := Lib.hid (bel_tr BW.out z10)
    clear BW z10 Fa Fn Fm Fx Fp
    have Fa := Na
    have Fn := Nn
    have Fm := Nm
    have Fx := Nx
    have Fp := Np
    have BW := NB
    clear NB Na Nn Nm Nx Np
    have Lp := Fp.out.lt
    have cp0 := Fp.out.c0
    have cp1 := Fp.out.c1
    have cp2 := Fp.out.c2
    have cp3 := Fp.out.c3
    have fp0 : v10.frozen? ⟨gp, 0, none⟩ = false := Fp.out.frozen 0
    have fp1 : v10.frozen? ⟨gp, 1, none⟩ = false := Fp.out.frozen 1
    have fp2 : v10.frozen? ⟨gp, 2, none⟩ = false := Fp.out.frozen 2
    have fp3 : v10.frozen? ⟨gp, 3, none⟩ = false := Fp.out.frozen 3
    go_wp2_with fail
    clear Lp cp0 cp1 cp2 cp3 fp0 fp1 fp2 fp3
    generalize hW11 : ((((v10.setCell ⟨gp, 0, none⟩ (.int .u64 (wd Z 0 : Nat))).setCell ⟨gp, 1, none⟩ (.int .u64 (wd Z 1 : Nat))).setCell ⟨gp, 2, none⟩ (.int .u64 (wd Z 2 : Nat))).setCell ⟨gp, 3, none⟩ (.int .u64 (wd Z 3 : Nat))) = W11 at *
    have Na := at_of hW11 ((Fa.out).far4 Dap _ _ _ _)
    have Nn := at_of hW11 ((Fn.out).far4 Dnp _ _ _ _)
    have Nm := at_of hW11 ((Fm.out).far4 Dmp _ _ _ _)
    have Nx := at_of hW11 ((Fx.out).far4 Dxp _ _ _ _)
    have Np := at_of hW11 ((Fp.out).put4 _ _ _ _)
    have NB := gr_of hW11 (((((BW.out).setCell Ep _).setCell Ep _).setCell Ep _).setCell Ep _)
    clear hW11 BW Fa Fn Fm Fx Fp
    have Fa := Lib.hid Na
    have Fn := Lib.hid Nn
    have Fm := Lib.hid Nm
    have Fx := Lib.hid Nx
    have Fp := Lib.hid Np
    have BW := Lib.hid NB
    clear NB Na Nn Nm Nx Np
    go_roundw
    case rel =>
     have hrel : Z = A ^ (N / 2 ^ j) % M := by have e := HH.out; rw [HB.out] at e; rw [HZ.out, HE.out, pw_more _ _ _ HA.out, e]
     first
      | exact ⟨j, Z, by omega, by go_num, Fa.out, Fn.out, Fm.out, Fx.out, Fp.out, BW.out, hrel⟩
      | ((repeat apply Exists.intro); exact ⟨⟨j, Z, by omega, by go_num, Fa.out, Fn.out, Fm.out, Fx.out, Fp.out, BW.out, hrel⟩, rfl⟩)
    case measure => (simp [intOf] <;> omega)

theorem re_yes (A N M : Nat) (hM : M < 2 ^ 256) (hN : N < 2 ^ 256) (h1 : 1 < M) (hA : A < M) : ∀ w, Calls Try.prog 43 #[num A, num N, num M] w fun e w' => e = .returned (.tuple #[num (A ^ N % M), .int .i64 0]) ∧ Below w.heap.size w w' := fun w => by
 have MY := may_any A A M (by omega) (by omega) hM
 rw [show decide (1 < M ∧ A < M ∧ A < M) = true from decide_eq_true ⟨h1, hA, hA⟩] at MY
 have W := rword_any M hM
 by_cases hm : M < 18446744073709551616
 ·rw [show decide (M < 18446744073709551616) = true from decide_eq_true hm] at W
  have hV : A ^ N % M < M := Nat.mod_lt _ (by omega)
  exact re_w A N M (A ^ N % M) MY W (fun w => by rw [w0_of A (by omega), w0_of M hm]; exact wordp_any A N M _ hA h1 hm hN rfl w) (rof1_any _ (by omega)) w
 ·rw [show decide (M < 18446744073709551616) = false from decide_eq_false hm] at W
  exact re_l A N M _ hA h1 hM hN rfl MY W (fun x y hx hy => rt_any x y M hx hy hM h1) w
end Go.Proofs.Ytbggihkigblnfaa
