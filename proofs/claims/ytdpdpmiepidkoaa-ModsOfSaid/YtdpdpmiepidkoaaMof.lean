import Derived.Test.YtdpdpmiepidkoaaBitsLN
import Derived.Test.YtdpdpmiepidkoaaDof
import Derived.Test.YtdpdpmiepidkoaaMod11
import Derived.Test.YtdpdpmiepidkoaaRefE
import Derived.Test.YtdpdpmiepidkoaaShort
/-
  The walk of ModsOf: it answers true, and nothing that was there is changed.
-/
namespace Go.Proofs.Ytdpdpmiepidkoaa
open Go.RowKit
set_option linter.unusedSimpArgs false
set_option linter.unusedVariables false
attribute [local go_sem ↓] Go.wp_at_zero Go.wp_at_succ

set_option maxRecDepth 100000 in
set_option maxHeartbeats 8000000 in
theorem mof_some (A B M x y z u v : Nat) (e1 e2 e3 e4 e5 : Int)
    (PAdd : ∀ w, Calls Try.prog 4 #[num A, num B, num M] w fun e w' => e = .returned (.tuple #[num x, .int .i64 e1]) ∧ Below w.heap.size w w')
    (PSub : ∀ w, Calls Try.prog 5 #[num A, num B, num M] w fun e w' => e = .returned (.tuple #[num y, .int .i64 e2]) ∧ Below w.heap.size w w')
    (PMul : ∀ w, Calls Try.prog 6 #[num A, num B, num M] w fun e w' => e = .returned (.tuple #[num z, .int .i64 e3]) ∧ Below w.heap.size w w')
    (PExp : ∀ w, Calls Try.prog 7 #[num A, num B, num M] w fun e w' => e = .returned (.tuple #[num u, .int .i64 e4]) ∧ Below w.heap.size w w')
    (PInv : ∀ w, Calls Try.prog 8 #[num A, num M] w fun e w' => e = .returned (.tuple #[num v, .int .i64 e5]) ∧ Below w.heap.size w w')
    (RAdd : ∀ w, Calls Try.prog 9 #[num A, num B, num M] w fun e w' => e = .returned (.tuple #[num x, .int .i64 e1]) ∧ Below w.heap.size w w')
    (RSub : ∀ w, Calls Try.prog 10 #[num A, num B, num M] w fun e w' => e = .returned (.tuple #[num y, .int .i64 e2]) ∧ Below w.heap.size w w')
    (RMul : ∀ w, Calls Try.prog 11 #[num A, num B, num M] w fun e w' => e = .returned (.tuple #[num z, .int .i64 e3]) ∧ Below w.heap.size w w')
    (RExp : ∀ w, Calls Try.prog 12 #[num A, num B, num M] w fun e w' => e = .returned (.tuple #[num u, .int .i64 e4]) ∧ Below w.heap.size w w')
    (RInv : ∀ w, Calls Try.prog 13 #[num A, num M] w fun e w' => e = .returned (.tuple #[num v, .int .i64 e5]) ∧ Below w.heap.size w w')
    (w : World) : Calls Try.prog 3 #[num A, num B, num M] w fun e w' => e = .returned (.bool true) ∧ Below w.heap.size w w' := by
  have HPAdd := Lib.hid PAdd
  have HPSub := Lib.hid PSub
  have HPMul := Lib.hid PMul
  have HPExp := Lib.hid PExp
  have HPInv := Lib.hid PInv
  have HRAdd := Lib.hid RAdd
  have HRSub := Lib.hid RSub
  have HRMul := Lib.hid RMul
  have HRExp := Lib.hid RExp
  have HRInv := Lib.hid RInv
  clear PAdd PSub PMul PExp PInv RAdd RSub RMul RExp RInv
  go_enter Try.func3, Try.ntmps3
  go_wp2_with fail
  have BW := Lib.hid (Below.refl w.heap.size w)
  generalize hW1 : (((w.alloc (.cells #[.int .u64 (wd A 0 : Nat), .int .u64 (wd A 1 : Nat), .int .u64 (wd A 2 : Nat), .int .u64 (wd A 3 : Nat)] 24)).alloc (.cells #[.int .u64 (wd B 0 : Nat), .int .u64 (wd B 1 : Nat), .int .u64 (wd B 2 : Nat), .int .u64 (wd B 3 : Nat)] 24)).alloc (.cells #[.int .u64 (wd M 0 : Nat), .int .u64 (wd M 1 : Nat), .int .u64 (wd M 2 : Nat), .int .u64 (wd M 3 : Nat)] 24)) = W1 at *
  have Na : At W1 (w.heap.size) _ _ := at_of hW1 (((At.at_ _ _ _ _ (by simp)).alloc _).alloc _)
  have Nb : At W1 (w.heap.size + 1) _ _ := at_of hW1 ((At.at_ _ _ _ _ (by simp)).alloc _)
  have Nm : At W1 (w.heap.size + 1 + 1) _ _ := at_of hW1 (At.at_ _ _ _ _ (by simp))
  have NB := gr_of hW1 (gr_alloc (gr_alloc (gr_alloc BW.out _) _) _)
  clear hW1 BW 
  generalize w.heap.size + 1 + 1 = gm at *
  generalize w.heap.size + 1 = gb at *
  obtain ⟨ga, hg0⟩ : ∃ g, g = w.heap.size := ⟨_, rfl⟩
  rw [← hg0] at Na ⊢
  clear hg0
  have Fa := Lib.hid Na
  have Fb := Lib.hid Nb
  have Fm := Lib.hid Nm
  have BW := Lib.hid NB
  clear NB Na Nb Nm
  have La := Fa.out.lt
  have ca0 := Fa.out.c0
  have ca1 := Fa.out.c1
  have ca2 := Fa.out.c2
  have ca3 := Fa.out.c3
  have Lb := Fb.out.lt
  have cb0 := Fb.out.c0
  have cb1 := Fb.out.c1
  have cb2 := Fb.out.c2
  have cb3 := Fb.out.c3
  have Lm := Fm.out.lt
  have cm0 := Fm.out.c0
  have cm1 := Fm.out.c1
  have cm2 := Fm.out.c2
  have cm3 := Fm.out.c3
  go_wp2_with fail
  clear La ca0 ca1 ca2 ca3 Lb cb0 cb1 cb2 cb3 Lm cm0 cm1 cm2 cm3
  refine (HPAdd.out _).mono ?_
  rintro e v2 ⟨rfl, z2⟩
  have Na := Lib.hid (Fa.out.on z2)
  have Nb := Lib.hid (Fb.out.on z2)
  have Nm := Lib.hid (Fm.out.on z2)
  have NB := Lib.hid (bel_tr BW.out z2)
  clear BW z2 Fa Fb Fm
  have Fa := Na
  have Fb := Nb
  have Fm := Nm
  have BW := NB
  clear NB Na Nb Nm
  have La := Fa.out.lt
  have ca0 := Fa.out.c0
  have ca1 := Fa.out.c1
  have ca2 := Fa.out.c2
  have ca3 := Fa.out.c3
  have Lb := Fb.out.lt
  have cb0 := Fb.out.c0
  have cb1 := Fb.out.c1
  have cb2 := Fb.out.c2
  have cb3 := Fb.out.c3
  have Lm := Fm.out.lt
  have cm0 := Fm.out.c0
  have cm1 := Fm.out.c1
  have cm2 := Fm.out.c2
  have cm3 := Fm.out.c3
  go_wp2_with fail
  clear La ca0 ca1 ca2 ca3 Lb cb0 cb1 cb2 cb3 Lm cm0 cm1 cm2 cm3
  generalize hW3 : (v2.alloc (.cells #[.int .u64 (wd x 0 : Nat), .int .u64 (wd x 1 : Nat), .int .u64 (wd x 2 : Nat), .int .u64 (wd x 3 : Nat)] 24)) = W3 at *
  have Npx : At W3 (v2.heap.size) _ _ := at_of hW3 (At.at_ _ _ _ _ (by simp))
  have Na := at_of hW3 (Fa.out.alloc _)
  have Nb := at_of hW3 (Fb.out.alloc _)
  have Nm := at_of hW3 (Fm.out.alloc _)
  have NB := gr_of hW3 (gr_alloc BW.out _)
  clear hW3 BW Fa Fb Fm
  generalize v2.heap.size = gpx at *
  have Fa := Lib.hid Na
  have Fb := Lib.hid Nb
  have Fm := Lib.hid Nm
  have Fpx := Lib.hid Npx
  have BW := Lib.hid NB
  clear NB Na Nb Nm Npx
  refine (HPSub.out _).mono ?_
  rintro e v4 ⟨rfl, z4⟩
  have Na := Lib.hid (Fa.out.on z4)
  have Nb := Lib.hid (Fb.out.on z4)
  have Nm := Lib.hid (Fm.out.on z4)
  have Npx := Lib.hid (Fpx.out.on z4)
  have NB := Lib.hid (bel_tr BW.out z4)
  clear BW z4 Fa Fb Fm Fpx
  have Fa := Na
  have Fb := Nb
  have Fm := Nm
  have Fpx := Npx
  have BW := NB
  clear NB Na Nb Nm Npx
  have La := Fa.out.lt
  have ca0 := Fa.out.c0
  have ca1 := Fa.out.c1
  have ca2 := Fa.out.c2
  have ca3 := Fa.out.c3
  have Lb := Fb.out.lt
  have cb0 := Fb.out.c0
  have cb1 := Fb.out.c1
  have cb2 := Fb.out.c2
  have cb3 := Fb.out.c3
  have Lm := Fm.out.lt
  have cm0 := Fm.out.c0
  have cm1 := Fm.out.c1
  have cm2 := Fm.out.c2
  have cm3 := Fm.out.c3
  go_wp2_with fail
  clear La ca0 ca1 ca2 ca3 Lb cb0 cb1 cb2 cb3 Lm cm0 cm1 cm2 cm3
  generalize hW5 : (v4.alloc (.cells #[.int .u64 (wd y 0 : Nat), .int .u64 (wd y 1 : Nat), .int .u64 (wd y 2 : Nat), .int .u64 (wd y 3 : Nat)] 24)) = W5 at *
  have Npy : At W5 (v4.heap.size) _ _ := at_of hW5 (At.at_ _ _ _ _ (by simp))
  have Na := at_of hW5 (Fa.out.alloc _)
  have Nb := at_of hW5 (Fb.out.alloc _)
  have Nm := at_of hW5 (Fm.out.alloc _)
  have Npx := at_of hW5 (Fpx.out.alloc _)
  have NB := gr_of hW5 (gr_alloc BW.out _)
  clear hW5 BW Fa Fb Fm Fpx
  generalize v4.heap.size = gpy at *
  have Fa := Lib.hid Na
  have Fb := Lib.hid Nb
  have Fm := Lib.hid Nm
  have Fpx := Lib.hid Npx
  have Fpy := Lib.hid Npy
  have BW := Lib.hid NB
  clear NB Na Nb Nm Npx Npy
  refine (HPMul.out _).mono ?_
  rintro e v6 ⟨rfl, z6⟩
  have Na := Lib.hid (Fa.out.on z6)
  have Nb := Lib.hid (Fb.out.on z6)
  have Nm := Lib.hid (Fm.out.on z6)
  have Npx := Lib.hid (Fpx.out.on z6)
  have Npy := Lib.hid (Fpy.out.on z6)
  have NB := Lib.hid (bel_tr BW.out z6)
  clear BW z6 Fa Fb Fm Fpx Fpy
  have Fa := Na
  have Fb := Nb
  have Fm := Nm
  have Fpx := Npx
  have Fpy := Npy
  have BW := NB
  clear NB Na Nb Nm Npx Npy
  have La := Fa.out.lt
  have ca0 := Fa.out.c0
  have ca1 := Fa.out.c1
  have ca2 := Fa.out.c2
  have ca3 := Fa.out.c3
  have Lb := Fb.out.lt
  have cb0 := Fb.out.c0
  have cb1 := Fb.out.c1
  have cb2 := Fb.out.c2
  have cb3 := Fb.out.c3
  have Lm := Fm.out.lt
  have cm0 := Fm.out.c0
  have cm1 := Fm.out.c1
  have cm2 := Fm.out.c2
  have cm3 := Fm.out.c3
  go_wp2_with fail
  clear La ca0 ca1 ca2 ca3 Lb cb0 cb1 cb2 cb3 Lm cm0 cm1 cm2 cm3
  generalize hW7 : (v6.alloc (.cells #[.int .u64 (wd z 0 : Nat), .int .u64 (wd z 1 : Nat), .int .u64 (wd z 2 : Nat), .int .u64 (wd z 3 : Nat)] 24)) = W7 at *
  have Npz : At W7 (v6.heap.size) _ _ := at_of hW7 (At.at_ _ _ _ _ (by simp))
  have Na := at_of hW7 (Fa.out.alloc _)
  have Nb := at_of hW7 (Fb.out.alloc _)
  have Nm := at_of hW7 (Fm.out.alloc _)
  have Npx := at_of hW7 (Fpx.out.alloc _)
  have Npy := at_of hW7 (Fpy.out.alloc _)
  have NB := gr_of hW7 (gr_alloc BW.out _)
  clear hW7 BW Fa Fb Fm Fpx Fpy
  generalize v6.heap.size = gpz at *
  have Fa := Lib.hid Na
  have Fb := Lib.hid Nb
  have Fm := Lib.hid Nm
  have Fpx := Lib.hid Npx
  have Fpy := Lib.hid Npy
  have Fpz := Lib.hid Npz
  have BW := Lib.hid NB
  clear NB Na Nb Nm Npx Npy Npz
  refine (HPExp.out _).mono ?_
  rintro e v8 ⟨rfl, z8⟩
  have Na := Lib.hid (Fa.out.on z8)
  have Nb := Lib.hid (Fb.out.on z8)
  have Nm := Lib.hid (Fm.out.on z8)
  have Npx := Lib.hid (Fpx.out.on z8)
  have Npy := Lib.hid (Fpy.out.on z8)
  have Npz := Lib.hid (Fpz.out.on z8)
  have NB := Lib.hid (bel_tr BW.out z8)
  clear BW z8 Fa Fb Fm Fpx Fpy Fpz
  have Fa := Na
  have Fb := Nb
  have Fm := Nm
  have Fpx := Npx
  have Fpy := Npy
  have Fpz := Npz
  have BW := NB
  clear NB Na Nb Nm Npx Npy Npz
  have La := Fa.out.lt
  have ca0 := Fa.out.c0
  have ca1 := Fa.out.c1
  have ca2 := Fa.out.c2
  have ca3 := Fa.out.c3
  have Lm := Fm.out.lt
  have cm0 := Fm.out.c0
  have cm1 := Fm.out.c1
  have cm2 := Fm.out.c2
  have cm3 := Fm.out.c3
  go_wp2_with fail
  clear La ca0 ca1 ca2 ca3 Lm cm0 cm1 cm2 cm3
  generalize hW9 : (v8.alloc (.cells #[.int .u64 (wd u 0 : Nat), .int .u64 (wd u 1 : Nat), .int .u64 (wd u 2 : Nat), .int .u64 (wd u 3 : Nat)] 24)) = W9 at *
  have Npu : At W9 (v8.heap.size) _ _ := at_of hW9 (At.at_ _ _ _ _ (by simp))
  have Na := at_of hW9 (Fa.out.alloc _)
  have Nb := at_of hW9 (Fb.out.alloc _)
  have Nm := at_of hW9 (Fm.out.alloc _)
  have Npx := at_of hW9 (Fpx.out.alloc _)
  have Npy := at_of hW9 (Fpy.out.alloc _)
  have Npz := at_of hW9 (Fpz.out.alloc _)
  have NB := gr_of hW9 (gr_alloc BW.out _)
  clear hW9 BW Fa Fb Fm Fpx Fpy Fpz
  generalize v8.heap.size = gpu at *
  have Fa := Lib.hid Na
  have Fb := Lib.hid Nb
  have Fm := Lib.hid Nm
  have Fpx := Lib.hid Npx
  have Fpy := Lib.hid Npy
  have Fpz := Lib.hid Npz
  have Fpu := Lib.hid Npu
  have BW := Lib.hid NB
  clear NB Na Nb Nm Npx Npy Npz Npu
  refine (HPInv.out _).mono ?_
  rintro e v10 ⟨rfl, z10⟩
  have Na := Lib.hid (Fa.out.on z10)
  have Nb := Lib.hid (Fb.out.on z10)
  have Nm := Lib.hid (Fm.out.on z10)
  have Npx := Lib.hid (Fpx.out.on z10)
  have Npy := Lib.hid (Fpy.out.on z10)
  have Npz := Lib.hid (Fpz.out.on z10)
  have Npu := Lib.hid (Fpu.out.on z10)
  have NB := Lib.hid (bel_tr BW.out z10)
  clear BW z10 Fa Fb Fm Fpx Fpy Fpz Fpu
  have Fa := Na
  have Fb := Nb
  have Fm := Nm
  have Fpx := Npx
  have Fpy := Npy
  have Fpz := Npz
  have Fpu := Npu
  have BW := NB
  clear NB Na Nb Nm Npx Npy Npz Npu
  have La := Fa.out.lt
  have ca0 := Fa.out.c0
  have ca1 := Fa.out.c1
  have ca2 := Fa.out.c2
  have ca3 := Fa.out.c3
  have Lb := Fb.out.lt
  have cb0 := Fb.out.c0
  have cb1 := Fb.out.c1
  have cb2 := Fb.out.c2
  have cb3 := Fb.out.c3
  have Lm := Fm.out.lt
  have cm0 := Fm.out.c0
  have cm1 := Fm.out.c1
  have cm2 := Fm.out.c2
  have cm3 := Fm.out.c3
  go_wp2_with fail
  clear La ca0 ca1 ca2 ca3 Lb cb0 cb1 cb2 cb3 Lm cm0 cm1 cm2 cm3
  generalize hW11 : (v10.alloc (.cells #[.int .u64 (wd v 0 : Nat), .int .u64 (wd v 1 : Nat), .int .u64 (wd v 2 : Nat), .int .u64 (wd v 3 : Nat)] 24)) = W11 at *
  have Npv : At W11 (v10.heap.size) _ _ := at_of hW11 (At.at_ _ _ _ _ (by simp))
  have Na := at_of hW11 (Fa.out.alloc _)
  have Nb := at_of hW11 (Fb.out.alloc _)
  have Nm := at_of hW11 (Fm.out.alloc _)
  have Npx := at_of hW11 (Fpx.out.alloc _)
  have Npy := at_of hW11 (Fpy.out.alloc _)
  have Npz := at_of hW11 (Fpz.out.alloc _)
  have Npu := at_of hW11 (Fpu.out.alloc _)
  have NB := gr_of hW11 (gr_alloc BW.out _)
  clear hW11 BW Fa Fb Fm Fpx Fpy Fpz Fpu
  generalize v10.heap.size = gpv at *
  have Fa := Lib.hid Na
  have Fb := Lib.hid Nb
  have Fm := Lib.hid Nm
  have Fpx := Lib.hid Npx
  have Fpy := Lib.hid Npy
  have Fpz := Lib.hid Npz
  have Fpu := Lib.hid Npu
  have Fpv := Lib.hid Npv
  have BW := Lib.hid NB
  clear NB Na Nb Nm Npx Npy Npz Npu Npv
  refine (HRAdd.out _).mono ?_
  rintro e v12 ⟨rfl, z12⟩
  have Na := Lib.hid (Fa.out.on z12)
  have Nb := Lib.hid (Fb.out.on z12)
  have Nm := Lib.hid (Fm.out.on z12)
  have Npx := Lib.hid (Fpx.out.on z12)
  have Npy := Lib.hid (Fpy.out.on z12)
  have Npz := Lib.hid (Fpz.out.on z12)
  have Npu := Lib.hid (Fpu.out.on z12)
  have Npv := Lib.hid (Fpv.out.on z12)
  have NB := Lib.hid (bel_tr BW.out z12)
  clear BW z12 Fa Fb Fm Fpx Fpy Fpz Fpu Fpv
  have Fa := Na
  have Fb := Nb
  have Fm := Nm
  have Fpx := Npx
  have Fpy := Npy
  have Fpz := Npz
  have Fpu := Npu
  have Fpv := Npv
  have BW := NB
  clear NB Na Nb Nm Npx Npy Npz Npu Npv
  have La := Fa.out.lt
  have ca0 := Fa.out.c0
  have ca1 := Fa.out.c1
  have ca2 := Fa.out.c2
  have ca3 := Fa.out.c3
  have Lb := Fb.out.lt
  have cb0 := Fb.out.c0
  have cb1 := Fb.out.c1
  have cb2 := Fb.out.c2
  have cb3 := Fb.out.c3
  have Lm := Fm.out.lt
  have cm0 := Fm.out.c0
  have cm1 := Fm.out.c1
  have cm2 := Fm.out.c2
  have cm3 := Fm.out.c3
  go_wp2_with fail
  clear La ca0 ca1 ca2 ca3 Lb cb0 cb1 cb2 cb3 Lm cm0 cm1 cm2 cm3
  generalize hW13 : (v12.alloc (.cells #[.int .u64 (wd x 0 : Nat), .int .u64 (wd x 1 : Nat), .int .u64 (wd x 2 : Nat), .int .u64 (wd x 3 : Nat)] 24)) = W13 at *
  have Nrx : At W13 (v12.heap.size) _ _ := at_of hW13 (At.at_ _ _ _ _ (by simp))
  have Na := at_of hW13 (Fa.out.alloc _)
  have Nb := at_of hW13 (Fb.out.alloc _)
  have Nm := at_of hW13 (Fm.out.alloc _)
  have Npx := at_of hW13 (Fpx.out.alloc _)
  have Npy := at_of hW13 (Fpy.out.alloc _)
  have Npz := at_of hW13 (Fpz.out.alloc _)
  have Npu := at_of hW13 (Fpu.out.alloc _)
  have Npv := at_of hW13 (Fpv.out.alloc _)
  have NB := gr_of hW13 (gr_alloc BW.out _)
  clear hW13 BW Fa Fb Fm Fpx Fpy Fpz Fpu Fpv
  generalize v12.heap.size = grx at *
  have Fa := Lib.hid Na
  have Fb := Lib.hid Nb
  have Fm := Lib.hid Nm
  have Fpx := Lib.hid Npx
  have Fpy := Lib.hid Npy
  have Fpz := Lib.hid Npz
  have Fpu := Lib.hid Npu
  have Fpv := Lib.hid Npv
  have Frx := Lib.hid Nrx
  have BW := Lib.hid NB
  clear NB Na Nb Nm Npx Npy Npz Npu Npv Nrx
  refine (HRSub.out _).mono ?_
  rintro e v14 ⟨rfl, z14⟩
  have Na := Lib.hid (Fa.out.on z14)
  have Nb := Lib.hid (Fb.out.on z14)
  have Nm := Lib.hid (Fm.out.on z14)
  have Npx := Lib.hid (Fpx.out.on z14)
  have Npy := Lib.hid (Fpy.out.on z14)
  have Npz := Lib.hid (Fpz.out.on z14)
  have Npu := Lib.hid (Fpu.out.on z14)
  have Npv := Lib.hid (Fpv.out.on z14)
  have Nrx := Lib.hid (Frx.out.on z14)
  have NB := Lib.hid (bel_tr BW.out z14)
  clear BW z14 Fa Fb Fm Fpx Fpy Fpz Fpu Fpv Frx
  have Fa := Na
  have Fb := Nb
  have Fm := Nm
  have Fpx := Npx
  have Fpy := Npy
  have Fpz := Npz
  have Fpu := Npu
  have Fpv := Npv
  have Frx := Nrx
  have BW := NB
  clear NB Na Nb Nm Npx Npy Npz Npu Npv Nrx
  have La := Fa.out.lt
  have ca0 := Fa.out.c0
  have ca1 := Fa.out.c1
  have ca2 := Fa.out.c2
  have ca3 := Fa.out.c3
  have Lb := Fb.out.lt
  have cb0 := Fb.out.c0
  have cb1 := Fb.out.c1
  have cb2 := Fb.out.c2
  have cb3 := Fb.out.c3
  have Lm := Fm.out.lt
  have cm0 := Fm.out.c0
  have cm1 := Fm.out.c1
  have cm2 := Fm.out.c2
  have cm3 := Fm.out.c3
  go_wp2_with fail
  clear La ca0 ca1 ca2 ca3 Lb cb0 cb1 cb2 cb3 Lm cm0 cm1 cm2 cm3
  generalize hW15 : (v14.alloc (.cells #[.int .u64 (wd y 0 : Nat), .int .u64 (wd y 1 : Nat), .int .u64 (wd y 2 : Nat), .int .u64 (wd y 3 : Nat)] 24)) = W15 at *
  have Nry : At W15 (v14.heap.size) _ _ := at_of hW15 (At.at_ _ _ _ _ (by simp))
  have Na := at_of hW15 (Fa.out.alloc _)
  have Nb := at_of hW15 (Fb.out.alloc _)
  have Nm := at_of hW15 (Fm.out.alloc _)
  have Npx := at_of hW15 (Fpx.out.alloc _)
  have Npy := at_of hW15 (Fpy.out.alloc _)
  have Npz := at_of hW15 (Fpz.out.alloc _)
  have Npu := at_of hW15 (Fpu.out.alloc _)
  have Npv := at_of hW15 (Fpv.out.alloc _)
  have Nrx := at_of hW15 (Frx.out.alloc _)
  have NB := gr_of hW15 (gr_alloc BW.out _)
  clear hW15 BW Fa Fb Fm Fpx Fpy Fpz Fpu Fpv Frx
  generalize v14.heap.size = gry at *
  have Fa := Lib.hid Na
  have Fb := Lib.hid Nb
  have Fm := Lib.hid Nm
  have Fpx := Lib.hid Npx
  have Fpy := Lib.hid Npy
  have Fpz := Lib.hid Npz
  have Fpu := Lib.hid Npu
  have Fpv := Lib.hid Npv
  have Frx := Lib.hid Nrx
  have Fry := Lib.hid Nry
  have BW := Lib.hid NB
  clear NB Na Nb Nm Npx Npy Npz Npu Npv Nrx Nry
  refine (HRMul.out _).mono ?_
  rintro e v16 ⟨rfl, z16⟩
  have Na := Lib.hid (Fa.out.on z16)
  have Nb := Lib.hid (Fb.out.on z16)
  have Nm := Lib.hid (Fm.out.on z16)
  have Npx := Lib.hid (Fpx.out.on z16)
  have Npy := Lib.hid (Fpy.out.on z16)
  have Npz := Lib.hid (Fpz.out.on z16)
  have Npu := Lib.hid (Fpu.out.on z16)
  have Npv := Lib.hid (Fpv.out.on z16)
  have Nrx := Lib.hid (Frx.out.on z16)
  have Nry := Lib.hid (Fry.out.on z16)
  have NB := Lib.hid (bel_tr BW.out z16)
  clear BW z16 Fa Fb Fm Fpx Fpy Fpz Fpu Fpv Frx Fry
  have Fa := Na
  have Fb := Nb
  have Fm := Nm
  have Fpx := Npx
  have Fpy := Npy
  have Fpz := Npz
  have Fpu := Npu
  have Fpv := Npv
  have Frx := Nrx
  have Fry := Nry
  have BW := NB
  clear NB Na Nb Nm Npx Npy Npz Npu Npv Nrx Nry
  have La := Fa.out.lt
  have ca0 := Fa.out.c0
  have ca1 := Fa.out.c1
  have ca2 := Fa.out.c2
  have ca3 := Fa.out.c3
  have Lb := Fb.out.lt
  have cb0 := Fb.out.c0
  have cb1 := Fb.out.c1
  have cb2 := Fb.out.c2
  have cb3 := Fb.out.c3
  have Lm := Fm.out.lt
  have cm0 := Fm.out.c0
  have cm1 := Fm.out.c1
  have cm2 := Fm.out.c2
  have cm3 := Fm.out.c3
  go_wp2_with fail
  clear La ca0 ca1 ca2 ca3 Lb cb0 cb1 cb2 cb3 Lm cm0 cm1 cm2 cm3
  generalize hW17 : (v16.alloc (.cells #[.int .u64 (wd z 0 : Nat), .int .u64 (wd z 1 : Nat), .int .u64 (wd z 2 : Nat), .int .u64 (wd z 3 : Nat)] 24)) = W17 at *
  have Nrz : At W17 (v16.heap.size) _ _ := at_of hW17 (At.at_ _ _ _ _ (by simp))
  have Na := at_of hW17 (Fa.out.alloc _)
  have Nb := at_of hW17 (Fb.out.alloc _)
  have Nm := at_of hW17 (Fm.out.alloc _)
  have Npx := at_of hW17 (Fpx.out.alloc _)
  have Npy := at_of hW17 (Fpy.out.alloc _)
  have Npz := at_of hW17 (Fpz.out.alloc _)
  have Npu := at_of hW17 (Fpu.out.alloc _)
  have Npv := at_of hW17 (Fpv.out.alloc _)
  have Nrx := at_of hW17 (Frx.out.alloc _)
  have Nry := at_of hW17 (Fry.out.alloc _)
  have NB := gr_of hW17 (gr_alloc BW.out _)
  clear hW17 BW Fa Fb Fm Fpx Fpy Fpz Fpu Fpv Frx Fry
  generalize v16.heap.size = grz at *
  have Fa := Lib.hid Na
  have Fb := Lib.hid Nb
  have Fm := Lib.hid Nm
  have Fpx := Lib.hid Npx
  have Fpy := Lib.hid Npy
  have Fpz := Lib.hid Npz
  have Fpu := Lib.hid Npu
  have Fpv := Lib.hid Npv
  have Frx := Lib.hid Nrx
  have Fry := Lib.hid Nry
  have Frz := Lib.hid Nrz
  have BW := Lib.hid NB
  clear NB Na Nb Nm Npx Npy Npz Npu Npv Nrx Nry Nrz
  refine (HRExp.out _).mono ?_
  rintro e v18 ⟨rfl, z18⟩
  have Na := Lib.hid (Fa.out.on z18)
  have Nb := Lib.hid (Fb.out.on z18)
  have Nm := Lib.hid (Fm.out.on z18)
  have Npx := Lib.hid (Fpx.out.on z18)
  have Npy := Lib.hid (Fpy.out.on z18)
  have Npz := Lib.hid (Fpz.out.on z18)
  have Npu := Lib.hid (Fpu.out.on z18)
  have Npv := Lib.hid (Fpv.out.on z18)
  have Nrx := Lib.hid (Frx.out.on z18)
  have Nry := Lib.hid (Fry.out.on z18)
  have Nrz := Lib.hid (Frz.out.on z18)
  have NB := Lib.hid (bel_tr BW.out z18)
  clear BW z18 Fa Fb Fm Fpx Fpy Fpz Fpu Fpv Frx Fry Frz
  have Fa := Na
  have Fb := Nb
  have Fm := Nm
  have Fpx := Npx
  have Fpy := Npy
  have Fpz := Npz
  have Fpu := Npu
  have Fpv := Npv
  have Frx := Nrx
  have Fry := Nry
  have Frz := Nrz
  have BW := NB
  clear NB Na Nb Nm Npx Npy Npz Npu Npv Nrx Nry Nrz
  have La := Fa.out.lt
  have ca0 := Fa.out.c0
  have ca1 := Fa.out.c1
  have ca2 := Fa.out.c2
  have ca3 := Fa.out.c3
  have Lm := Fm.out.lt
  have cm0 := Fm.out.c0
  have cm1 := Fm.out.c1
  have cm2 := Fm.out.c2
  have cm3 := Fm.out.c3
  go_wp2_with fail
  clear La ca0 ca1 ca2 ca3 Lm cm0 cm1 cm2 cm3
  generalize hW19 : (v18.alloc (.cells #[.int .u64 (wd u 0 : Nat), .int .u64 (wd u 1 : Nat), .int .u64 (wd u 2 : Nat), .int .u64 (wd u 3 : Nat)] 24)) = W19 at *
  have Nru : At W19 (v18.heap.size) _ _ := at_of hW19 (At.at_ _ _ _ _ (by simp))
  have Na := at_of hW19 (Fa.out.alloc _)
  have Nb := at_of hW19 (Fb.out.alloc _)
  have Nm := at_of hW19 (Fm.out.alloc _)
  have Npx := at_of hW19 (Fpx.out.alloc _)
  have Npy := at_of hW19 (Fpy.out.alloc _)
  have Npz := at_of hW19 (Fpz.out.alloc _)
  have Npu := at_of hW19 (Fpu.out.alloc _)
  have Npv := at_of hW19 (Fpv.out.alloc _)
  have Nrx := at_of hW19 (Frx.out.alloc _)
  have Nry := at_of hW19 (Fry.out.alloc _)
  have Nrz := at_of hW19 (Frz.out.alloc _)
  have NB := gr_of hW19 (gr_alloc BW.out _)
  clear hW19 BW Fa Fb Fm Fpx Fpy Fpz Fpu Fpv Frx Fry Frz
  generalize v18.heap.size = gru at *
  have Fa := Lib.hid Na
  have Fb := Lib.hid Nb
  have Fm := Lib.hid Nm
  have Fpx := Lib.hid Npx
  have Fpy := Lib.hid Npy
  have Fpz := Lib.hid Npz
  have Fpu := Lib.hid Npu
  have Fpv := Lib.hid Npv
  have Frx := Lib.hid Nrx
  have Fry := Lib.hid Nry
  have Frz := Lib.hid Nrz
  have Fru := Lib.hid Nru
  have BW := Lib.hid NB
  clear NB Na Nb Nm Npx Npy Npz Npu Npv Nrx Nry Nrz Nru
  refine (HRInv.out _).mono ?_
  rintro e v20 ⟨rfl, z20⟩
  have Na := Lib.hid (Fa.out.on z20)
  have Nb := Lib.hid (Fb.out.on z20)
  have Nm := Lib.hid (Fm.out.on z20)
  have Npx := Lib.hid (Fpx.out.on z20)
  have Npy := Lib.hid (Fpy.out.on z20)
  have Npz := Lib.hid (Fpz.out.on z20)
  have Npu := Lib.hid (Fpu.out.on z20)
  have Npv := Lib.hid (Fpv.out.on z20)
  have Nrx := Lib.hid (Frx.out.on z20)
  have Nry := Lib.hid (Fry.out.on z20)
  have Nrz := Lib.hid (Frz.out.on z20)
  have Nru := Lib.hid (Fru.out.on z20)
  have NB := Lib.hid (bel_tr BW.out z20)
  clear BW z20 Fa Fb Fm Fpx Fpy Fpz Fpu Fpv Frx Fry Frz Fru
  have Fa := Na
  have Fb := Nb
  have Fm := Nm
  have Fpx := Npx
  have Fpy := Npy
  have Fpz := Npz
  have Fpu := Npu
  have Fpv := Npv
  have Frx := Nrx
  have Fry := Nry
  have Frz := Nrz
  have Fru := Nru
  have BW := NB
  clear NB Na Nb Nm Npx Npy Npz Npu Npv Nrx Nry Nrz Nru
  have Lpx := Fpx.out.lt
  have cpx0 := Fpx.out.c0
  have cpx1 := Fpx.out.c1
  have cpx2 := Fpx.out.c2
  have cpx3 := Fpx.out.c3
  have Lrx := Frx.out.lt
  have crx0 := Frx.out.c0
  have crx1 := Frx.out.c1
  have crx2 := Frx.out.c2
  have crx3 := Frx.out.c3
  have Lpy := Fpy.out.lt
  have cpy0 := Fpy.out.c0
  have cpy1 := Fpy.out.c1
  have cpy2 := Fpy.out.c2
  have cpy3 := Fpy.out.c3
  have Lry := Fry.out.lt
  have cry0 := Fry.out.c0
  have cry1 := Fry.out.c1
  have cry2 := Fry.out.c2
  have cry3 := Fry.out.c3
  have Lpz := Fpz.out.lt
  have cpz0 := Fpz.out.c0
  have cpz1 := Fpz.out.c1
  have cpz2 := Fpz.out.c2
  have cpz3 := Fpz.out.c3
  have Lrz := Frz.out.lt
  have crz0 := Frz.out.c0
  have crz1 := Frz.out.c1
  have crz2 := Frz.out.c2
  have crz3 := Frz.out.c3
  have Lpu := Fpu.out.lt
  have cpu0 := Fpu.out.c0
  have cpu1 := Fpu.out.c1
  have cpu2 := Fpu.out.c2
  have cpu3 := Fpu.out.c3
  have Lru := Fru.out.lt
  have cru0 := Fru.out.c0
  have cru1 := Fru.out.c1
  have cru2 := Fru.out.c2
  have cru3 := Fru.out.c3
  have Lpv := Fpv.out.lt
  have cpv0 := Fpv.out.c0
  have cpv1 := Fpv.out.c1
  have cpv2 := Fpv.out.c2
  have cpv3 := Fpv.out.c3
  have qqx := eqY x
  have qqy := eqY y
  have qqz := eqY z
  have qqu := eqY u
  have qqv := eqY v
  go_wp2_with fail
  go_ret
  exact ⟨rfl, gr_alloc BW.out _⟩

theorem both_add (A B M : Nat) (hA : A < 2 ^ 256) (hB : B < 2 ^ 256) (hM : M < 2 ^ 256) : ∃ (x : Nat) (e1 : Int), (∀ w, Calls Try.prog 4 #[num A, num B, num M] w fun e w' => e = .returned (.tuple #[num x, .int .i64 e1]) ∧ Below w.heap.size w w') ∧ (∀ w, Calls Try.prog 9 #[num A, num B, num M] w fun e w' => e = .returned (.tuple #[num x, .int .i64 e1]) ∧ Below w.heap.size w w') := by
  by_cases h : 1 < M ∧ A < M ∧ B < M
  · exact ⟨_, 0, madd_yes A B M hM h.1 h.2.1 h.2.2, ra_yes A B M hM h.1 h.2.1 h.2.2⟩
  · exact ⟨0, 1, madd_no A B M hA hB hM h, ra_no A B M hA hB hM h⟩
theorem both_sub (A B M : Nat) (hA : A < 2 ^ 256) (hB : B < 2 ^ 256) (hM : M < 2 ^ 256) : ∃ (y : Nat) (e2 : Int), (∀ w, Calls Try.prog 5 #[num A, num B, num M] w fun e w' => e = .returned (.tuple #[num y, .int .i64 e2]) ∧ Below w.heap.size w w') ∧ (∀ w, Calls Try.prog 10 #[num A, num B, num M] w fun e w' => e = .returned (.tuple #[num y, .int .i64 e2]) ∧ Below w.heap.size w w') := by
  by_cases h : 1 < M ∧ A < M ∧ B < M
  · exact ⟨_, 0, msub_yes A B M hM h.1 h.2.1 h.2.2, rs_yes A B M hM h.1 h.2.1 h.2.2⟩
  · exact ⟨0, 1, msub_no A B M hA hB hM h, rs_no A B M hA hB hM h⟩
theorem both_mul (A B M : Nat) (hA : A < 2 ^ 256) (hB : B < 2 ^ 256) (hM : M < 2 ^ 256) : ∃ (z : Nat) (e3 : Int), (∀ w, Calls Try.prog 6 #[num A, num B, num M] w fun e w' => e = .returned (.tuple #[num z, .int .i64 e3]) ∧ Below w.heap.size w w') ∧ (∀ w, Calls Try.prog 11 #[num A, num B, num M] w fun e w' => e = .returned (.tuple #[num z, .int .i64 e3]) ∧ Below w.heap.size w w') := by
  by_cases h : 1 < M ∧ A < M ∧ B < M
  · exact ⟨_, 0, mmul_yes A B M hM h.1 h.2.1 h.2.2, rm_yes A B M hM h.1 h.2.1 h.2.2⟩
  · exact ⟨0, 1, mmul_no A B M hA hB hM h, rm_no A B M hA hB hM h⟩
theorem both_exp (A B M : Nat) (hA : A < 2 ^ 256) (hB : B < 2 ^ 256) (hM : M < 2 ^ 256) : ∃ (u : Nat) (e4 : Int), (∀ w, Calls Try.prog 7 #[num A, num B, num M] w fun e w' => e = .returned (.tuple #[num u, .int .i64 e4]) ∧ Below w.heap.size w w') ∧ (∀ w, Calls Try.prog 12 #[num A, num B, num M] w fun e w' => e = .returned (.tuple #[num u, .int .i64 e4]) ∧ Below w.heap.size w w') := by
  by_cases h : 1 < M ∧ A < M
  · exact ⟨_, 0, mexp_yes A B M hM hB h.1 h.2, re_yes A B M hM hB h.1 h.2⟩
  · exact ⟨0, 1, mexp_no A B M hA hM h, re_not A B M hA hM h⟩
theorem both_inv (A B M : Nat) (hA : A < 2 ^ 256) (hB : B < 2 ^ 256) (hM : M < 2 ^ 256) : ∃ (v : Nat) (e5 : Int), (∀ w, Calls Try.prog 8 #[num A, num M] w fun e w' => e = .returned (.tuple #[num v, .int .i64 e5]) ∧ Below w.heap.size w w') ∧ (∀ w, Calls Try.prog 13 #[num A, num M] w fun e w' => e = .returned (.tuple #[num v, .int .i64 e5]) ∧ Below w.heap.size w w') := by
  by_cases h : 1 < M ∧ A < M
  · have hm : ∀ w, Calls Try.prog 21 #[num A, num A, num M] w fun e w' => e = .returned (.bool true) ∧ Below w.heap.size w w' := fun w => by
      have := may_any A A M hA hA hM w
      rw [show decide (1 < M ∧ A < M ∧ A < M) = true from decide_eq_true ⟨h.1, h.2, h.2⟩] at this
      exact this
    have CO := fun w => rof1_any 1 (by decide) w
    have CC := fun w => rcom_any A M hA hM w
    by_cases hg : Nat.gcd A M = 1
    · obtain ⟨V, hV, hAV⟩ := inv_there A M h.1 hg
      rw [hg] at CC
      exact ⟨V, 0, minv_yes A M V hM h.1 h.2 hV hAV, fun w => ri_some A M V h.2 h.1 hM hg hV hAV hm CC CO w⟩
    · have hgl : Nat.gcd A M < 2 ^ 256 := Nat.lt_of_le_of_lt (Nat.gcd_le_right _ (by omega)) hM
      refine ⟨0, 7, minv_none A M hM h.1 h.2 hg, fun w => ?_⟩
      have := ri_none A M _ hm CC CO (fun w => by rw [eqN _ 1 hgl (by decide)]; simp [hg]) w
      rwa [← num_zero] at this
  · refine ⟨0, 1, minv_no A M hA hM h, fun w => ?_⟩
    have := ri_no A M (fun w => may_no A A M hA hA hM (fun h' => h ⟨h'.1, h'.2.1⟩) w) w
    rwa [← num_zero] at this
theorem mof_walk (A B M : Nat) (hA : A < 2 ^ 256) (hB : B < 2 ^ 256) (hM : M < 2 ^ 256) (w : World) : Calls Try.prog 3 #[num A, num B, num M] w fun e w' => e = .returned (.bool true) ∧ Below w.heap.size w w' := by
  obtain ⟨x, e1, PA, RA⟩ := both_add A B M hA hB hM
  obtain ⟨y, e2, PS, RS⟩ := both_sub A B M hA hB hM
  obtain ⟨z, e3, PM, RM⟩ := both_mul A B M hA hB hM
  obtain ⟨u, e4, PE, RE⟩ := both_exp A B M hA hB hM
  obtain ⟨v, e5, PI, RI⟩ := both_inv A B M hA hB hM
  exact mof_some A B M x y z u v e1 e2 e3 e4 e5 PA PS PM PE PI RA RS RM RE RI w
end Go.Proofs.Ytdpdpmiepidkoaa
