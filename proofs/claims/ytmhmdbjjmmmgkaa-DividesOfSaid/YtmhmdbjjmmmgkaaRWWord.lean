/-
  balefireref03.Wide, of one word: word by word.
-/
import Derived.Test.YtmhmdbjjmmmgkaaRWide
import Derived.Test.YtmhmdbjjmmmgkaaDiv64A
import Derived.LoopN
namespace Go.Proofs.Ytmhmdbjjmmmgkaa
open Go.RowKit
set_option linter.unusedSimpArgs false
set_option linter.unusedVariables false
attribute [local go_sem ↓] Go.wp_at_zero Go.wp_at_succ

set_option maxRecDepth 100000 in
set_option maxHeartbeats 8000000 in
theorem rwide_w (A R M r1 r2 r3 r4 r5 r6 r7 r8 q0 q1 q2 q3 q4 q5 q6 q7 : Nat)
    (EQ : ∀ w, (Op.equalIn 10000 24 (num M) (.agg #[.int .u64 0, .int .u64 0, .int .u64 0, .int .u64 0])).run Try.prog w = .ok false w)
    (W : ∀ w, Calls Try.prog 34 #[num M] w fun e w' => e = .returned (.bool true) ∧ Below w.heap.size w w')
    (D0 : ∀ w, Calls Try.prog 40 #[.int .u64 0, .int .u64 (wd R 3 : Nat), .int .u64 (wd M 0 : Nat)] w fun e w' => e = .returned (.tuple #[.int .u64 (q0 : Nat), .int .u64 (r1 : Nat)]) ∧ Below w.heap.size w w')
    (D1 : ∀ w, Calls Try.prog 40 #[.int .u64 (r1 : Nat), .int .u64 (wd R 2 : Nat), .int .u64 (wd M 0 : Nat)] w fun e w' => e = .returned (.tuple #[.int .u64 (q1 : Nat), .int .u64 (r2 : Nat)]) ∧ Below w.heap.size w w')
    (D2 : ∀ w, Calls Try.prog 40 #[.int .u64 (r2 : Nat), .int .u64 (wd R 1 : Nat), .int .u64 (wd M 0 : Nat)] w fun e w' => e = .returned (.tuple #[.int .u64 (q2 : Nat), .int .u64 (r3 : Nat)]) ∧ Below w.heap.size w w')
    (D3 : ∀ w, Calls Try.prog 40 #[.int .u64 (r3 : Nat), .int .u64 (wd R 0 : Nat), .int .u64 (wd M 0 : Nat)] w fun e w' => e = .returned (.tuple #[.int .u64 (q3 : Nat), .int .u64 (r4 : Nat)]) ∧ Below w.heap.size w w')
    (D4 : ∀ w, Calls Try.prog 40 #[.int .u64 (r4 : Nat), .int .u64 (wd A 3 : Nat), .int .u64 (wd M 0 : Nat)] w fun e w' => e = .returned (.tuple #[.int .u64 (q4 : Nat), .int .u64 (r5 : Nat)]) ∧ Below w.heap.size w w')
    (D5 : ∀ w, Calls Try.prog 40 #[.int .u64 (r5 : Nat), .int .u64 (wd A 2 : Nat), .int .u64 (wd M 0 : Nat)] w fun e w' => e = .returned (.tuple #[.int .u64 (q5 : Nat), .int .u64 (r6 : Nat)]) ∧ Below w.heap.size w w')
    (D6 : ∀ w, Calls Try.prog 40 #[.int .u64 (r6 : Nat), .int .u64 (wd A 1 : Nat), .int .u64 (wd M 0 : Nat)] w fun e w' => e = .returned (.tuple #[.int .u64 (q6 : Nat), .int .u64 (r7 : Nat)]) ∧ Below w.heap.size w w')
    (D7 : ∀ w, Calls Try.prog 40 #[.int .u64 (r7 : Nat), .int .u64 (wd A 0 : Nat), .int .u64 (wd M 0 : Nat)] w fun e w' => e = .returned (.tuple #[.int .u64 (q7 : Nat), .int .u64 (r8 : Nat)]) ∧ Below w.heap.size w w')
    (O : ∀ w, Calls Try.prog 35 #[.int .u64 (r8 : Nat)] w fun e w' => e = .returned (num r8) ∧ Below w.heap.size w w')
    (w : World) : Calls Try.prog 14 #[num A, num R, num M] w fun e w' => e = .returned (.tuple #[num r8, .int .i64 0]) ∧ Below w.heap.size w w' := by
  have HW := Lib.hid W
  have HD0 := Lib.hid D0
  have HD1 := Lib.hid D1
  have HD2 := Lib.hid D2
  have HD3 := Lib.hid D3
  have HD4 := Lib.hid D4
  have HD5 := Lib.hid D5
  have HD6 := Lib.hid D6
  have HD7 := Lib.hid D7
  have HO := Lib.hid O
  clear W D0 D1 D2 D3 D4 D5 D6 D7 O
  go_enter Try.func14, Try.ntmps14
  go_wp2_with (simp only [EQ])
  clear EQ
  have BW := Lib.hid (Below.refl w.heap.size w)
  have Na : At ((((w.alloc (.cells #[.int .u64 (wd A 0 : Nat), .int .u64 (wd A 1 : Nat), .int .u64 (wd A 2 : Nat), .int .u64 (wd A 3 : Nat)] 24)).alloc (.cells #[.int .u64 (wd R 0 : Nat), .int .u64 (wd R 1 : Nat), .int .u64 (wd R 2 : Nat), .int .u64 (wd R 3 : Nat)] 24)).alloc (.cells #[.int .u64 (wd M 0 : Nat), .int .u64 (wd M 1 : Nat), .int .u64 (wd M 2 : Nat), .int .u64 (wd M 3 : Nat)] 24)).alloc (.cells #[.int .u64 0, .int .u64 0, .int .u64 0, .int .u64 0] 24)) (w.heap.size) 24 #[.int .u64 (wd A 0 : Nat), .int .u64 (wd A 1 : Nat), .int .u64 (wd A 2 : Nat), .int .u64 (wd A 3 : Nat)] := (((At.at_ _ _ _ _ (by simp)).alloc _).alloc _).alloc _
  have Nh : At ((((w.alloc (.cells #[.int .u64 (wd A 0 : Nat), .int .u64 (wd A 1 : Nat), .int .u64 (wd A 2 : Nat), .int .u64 (wd A 3 : Nat)] 24)).alloc (.cells #[.int .u64 (wd R 0 : Nat), .int .u64 (wd R 1 : Nat), .int .u64 (wd R 2 : Nat), .int .u64 (wd R 3 : Nat)] 24)).alloc (.cells #[.int .u64 (wd M 0 : Nat), .int .u64 (wd M 1 : Nat), .int .u64 (wd M 2 : Nat), .int .u64 (wd M 3 : Nat)] 24)).alloc (.cells #[.int .u64 0, .int .u64 0, .int .u64 0, .int .u64 0] 24)) (w.heap.size + 1) 24 #[.int .u64 (wd R 0 : Nat), .int .u64 (wd R 1 : Nat), .int .u64 (wd R 2 : Nat), .int .u64 (wd R 3 : Nat)] := ((At.at_ _ _ _ _ (by simp)).alloc _).alloc _
  have Nm : At ((((w.alloc (.cells #[.int .u64 (wd A 0 : Nat), .int .u64 (wd A 1 : Nat), .int .u64 (wd A 2 : Nat), .int .u64 (wd A 3 : Nat)] 24)).alloc (.cells #[.int .u64 (wd R 0 : Nat), .int .u64 (wd R 1 : Nat), .int .u64 (wd R 2 : Nat), .int .u64 (wd R 3 : Nat)] 24)).alloc (.cells #[.int .u64 (wd M 0 : Nat), .int .u64 (wd M 1 : Nat), .int .u64 (wd M 2 : Nat), .int .u64 (wd M 3 : Nat)] 24)).alloc (.cells #[.int .u64 0, .int .u64 0, .int .u64 0, .int .u64 0] 24)) (w.heap.size + 1 + 1) 24 #[.int .u64 (wd M 0 : Nat), .int .u64 (wd M 1 : Nat), .int .u64 (wd M 2 : Nat), .int .u64 (wd M 3 : Nat)] := (At.at_ _ _ _ _ (by simp)).alloc _
  have No : At ((((w.alloc (.cells #[.int .u64 (wd A 0 : Nat), .int .u64 (wd A 1 : Nat), .int .u64 (wd A 2 : Nat), .int .u64 (wd A 3 : Nat)] 24)).alloc (.cells #[.int .u64 (wd R 0 : Nat), .int .u64 (wd R 1 : Nat), .int .u64 (wd R 2 : Nat), .int .u64 (wd R 3 : Nat)] 24)).alloc (.cells #[.int .u64 (wd M 0 : Nat), .int .u64 (wd M 1 : Nat), .int .u64 (wd M 2 : Nat), .int .u64 (wd M 3 : Nat)] 24)).alloc (.cells #[.int .u64 0, .int .u64 0, .int .u64 0, .int .u64 0] 24)) (w.heap.size + 1 + 1 + 1) 24 #[.int .u64 0, .int .u64 0, .int .u64 0, .int .u64 0] := At.at_ _ _ _ _ (by simp)
  have Eo : w.heap.size ≤ w.heap.size + 1 + 1 + 1 := by have := BW.out.size; omega
  have Dao : w.heap.size ≠ w.heap.size + 1 + 1 + 1 := by omega
  have Dho : w.heap.size + 1 ≠ w.heap.size + 1 + 1 + 1 := by omega
  have Dmo : w.heap.size + 1 + 1 ≠ w.heap.size + 1 + 1 + 1 := by omega
  have NB : Below w.heap.size w ((((w.alloc (.cells #[.int .u64 (wd A 0 : Nat), .int .u64 (wd A 1 : Nat), .int .u64 (wd A 2 : Nat), .int .u64 (wd A 3 : Nat)] 24)).alloc (.cells #[.int .u64 (wd R 0 : Nat), .int .u64 (wd R 1 : Nat), .int .u64 (wd R 2 : Nat), .int .u64 (wd R 3 : Nat)] 24)).alloc (.cells #[.int .u64 (wd M 0 : Nat), .int .u64 (wd M 1 : Nat), .int .u64 (wd M 2 : Nat), .int .u64 (wd M 3 : Nat)] 24)).alloc (.cells #[.int .u64 0, .int .u64 0, .int .u64 0, .int .u64 0] 24)) := gr_alloc (gr_alloc (gr_alloc (gr_alloc BW.out _) _) _) _
  clear BW 
  generalize ((((w.alloc (.cells #[.int .u64 (wd A 0 : Nat), .int .u64 (wd A 1 : Nat), .int .u64 (wd A 2 : Nat), .int .u64 (wd A 3 : Nat)] 24)).alloc (.cells #[.int .u64 (wd R 0 : Nat), .int .u64 (wd R 1 : Nat), .int .u64 (wd R 2 : Nat), .int .u64 (wd R 3 : Nat)] 24)).alloc (.cells #[.int .u64 (wd M 0 : Nat), .int .u64 (wd M 1 : Nat), .int .u64 (wd M 2 : Nat), .int .u64 (wd M 3 : Nat)] 24)).alloc (.cells #[.int .u64 0, .int .u64 0, .int .u64 0, .int .u64 0] 24)) = W1 at *
  generalize w.heap.size + 1 + 1 + 1 = go at *
  generalize w.heap.size + 1 + 1 = gm at *
  generalize w.heap.size + 1 = gh at *
  obtain ⟨ga, hg0⟩ : ∃ g, g = w.heap.size := ⟨_, rfl⟩
  rw [← hg0] at Na ⊢
  rw [← hg0] at Dao
  clear hg0
  have Fa := Lib.hid Na
  have Fh := Lib.hid Nh
  have Fm := Lib.hid Nm
  have Fo := Lib.hid No
  have BW := Lib.hid NB
  clear NB Na Nh Nm No
  refine (HW.out _).mono ?_
  rintro e v2 ⟨rfl, z2⟩
  have Na := Lib.hid (Fa.out.on z2)
  have Nh := Lib.hid (Fh.out.on z2)
  have Nm := Lib.hid (Fm.out.on z2)
  have No := Lib.hid (Fo.out.on z2)
  have NB := Lib.hid (bel_tr BW.out z2)
  clear BW z2 Fa Fh Fm Fo
  have Fa := Na
  have Fh := Nh
  have Fm := Nm
  have Fo := No
  have BW := NB
  clear NB Na Nh Nm No
  go_wp2_with fail
  refine wp_loop_rounds 9 ?_
  rw [rounds_succ]
  have Lh := Fh.out.lt
  have ch0 : v2.cell? ⟨gh, 0, none⟩ = some (.int .u64 (wd R 0 : Nat)) := Fh.out.cell 0
  have ch1 : v2.cell? ⟨gh, 1, none⟩ = some (.int .u64 (wd R 1 : Nat)) := Fh.out.cell 1
  have ch2 : v2.cell? ⟨gh, 2, none⟩ = some (.int .u64 (wd R 2 : Nat)) := Fh.out.cell 2
  have ch3 : v2.cell? ⟨gh, 3, none⟩ = some (.int .u64 (wd R 3 : Nat)) := Fh.out.cell 3
  have La := Fa.out.lt
  have ca0 : v2.cell? ⟨ga, 0, none⟩ = some (.int .u64 (wd A 0 : Nat)) := Fa.out.cell 0
  have ca1 : v2.cell? ⟨ga, 1, none⟩ = some (.int .u64 (wd A 1 : Nat)) := Fa.out.cell 1
  have ca2 : v2.cell? ⟨ga, 2, none⟩ = some (.int .u64 (wd A 2 : Nat)) := Fa.out.cell 2
  have ca3 : v2.cell? ⟨ga, 3, none⟩ = some (.int .u64 (wd A 3 : Nat)) := Fa.out.cell 3
  have Lm := Fm.out.lt
  have cm0 : v2.cell? ⟨gm, 0, none⟩ = some (.int .u64 (wd M 0 : Nat)) := Fm.out.cell 0
  have cm1 : v2.cell? ⟨gm, 1, none⟩ = some (.int .u64 (wd M 1 : Nat)) := Fm.out.cell 1
  have cm2 : v2.cell? ⟨gm, 2, none⟩ = some (.int .u64 (wd M 2 : Nat)) := Fm.out.cell 2
  have cm3 : v2.cell? ⟨gm, 3, none⟩ = some (.int .u64 (wd M 3 : Nat)) := Fm.out.cell 3
  go_wp2_with fail
  clear Lh ch0 ch1 ch2 ch3 La ca0 ca1 ca2 ca3 Lm cm0 cm1 cm2 cm3
  refine (HD0.out _).mono ?_
  rintro e v3 ⟨rfl, z3⟩
  have Na := Lib.hid (Fa.out.on z3)
  have Nh := Lib.hid (Fh.out.on z3)
  have Nm := Lib.hid (Fm.out.on z3)
  have No := Lib.hid (Fo.out.on z3)
  have NB := Lib.hid (bel_tr BW.out z3)
  clear BW z3 Fa Fh Fm Fo
  have Fa := Na
  have Fh := Nh
  have Fm := Nm
  have Fo := No
  have BW := NB
  clear NB Na Nh Nm No
  have Lh := Fh.out.lt
  have ch0 : v3.cell? ⟨gh, 0, none⟩ = some (.int .u64 (wd R 0 : Nat)) := Fh.out.cell 0
  have ch1 : v3.cell? ⟨gh, 1, none⟩ = some (.int .u64 (wd R 1 : Nat)) := Fh.out.cell 1
  have ch2 : v3.cell? ⟨gh, 2, none⟩ = some (.int .u64 (wd R 2 : Nat)) := Fh.out.cell 2
  have ch3 : v3.cell? ⟨gh, 3, none⟩ = some (.int .u64 (wd R 3 : Nat)) := Fh.out.cell 3
  have La := Fa.out.lt
  have ca0 : v3.cell? ⟨ga, 0, none⟩ = some (.int .u64 (wd A 0 : Nat)) := Fa.out.cell 0
  have ca1 : v3.cell? ⟨ga, 1, none⟩ = some (.int .u64 (wd A 1 : Nat)) := Fa.out.cell 1
  have ca2 : v3.cell? ⟨ga, 2, none⟩ = some (.int .u64 (wd A 2 : Nat)) := Fa.out.cell 2
  have ca3 : v3.cell? ⟨ga, 3, none⟩ = some (.int .u64 (wd A 3 : Nat)) := Fa.out.cell 3
  have Lm := Fm.out.lt
  have cm0 : v3.cell? ⟨gm, 0, none⟩ = some (.int .u64 (wd M 0 : Nat)) := Fm.out.cell 0
  have cm1 : v3.cell? ⟨gm, 1, none⟩ = some (.int .u64 (wd M 1 : Nat)) := Fm.out.cell 1
  have cm2 : v3.cell? ⟨gm, 2, none⟩ = some (.int .u64 (wd M 2 : Nat)) := Fm.out.cell 2
  have cm3 : v3.cell? ⟨gm, 3, none⟩ = some (.int .u64 (wd M 3 : Nat)) := Fm.out.cell 3
  go_wp2_with fail
  clear Lh ch0 ch1 ch2 ch3 La ca0 ca1 ca2 ca3 Lm cm0 cm1 cm2 cm3
  rw [rounds_succ]
  have Lh := Fh.out.lt
  have ch0 : v3.cell? ⟨gh, 0, none⟩ = some (.int .u64 (wd R 0 : Nat)) := Fh.out.cell 0
  have ch1 : v3.cell? ⟨gh, 1, none⟩ = some (.int .u64 (wd R 1 : Nat)) := Fh.out.cell 1
  have ch2 : v3.cell? ⟨gh, 2, none⟩ = some (.int .u64 (wd R 2 : Nat)) := Fh.out.cell 2
  have ch3 : v3.cell? ⟨gh, 3, none⟩ = some (.int .u64 (wd R 3 : Nat)) := Fh.out.cell 3
  have La := Fa.out.lt
  have ca0 : v3.cell? ⟨ga, 0, none⟩ = some (.int .u64 (wd A 0 : Nat)) := Fa.out.cell 0
  have ca1 : v3.cell? ⟨ga, 1, none⟩ = some (.int .u64 (wd A 1 : Nat)) := Fa.out.cell 1
  have ca2 : v3.cell? ⟨ga, 2, none⟩ = some (.int .u64 (wd A 2 : Nat)) := Fa.out.cell 2
  have ca3 : v3.cell? ⟨ga, 3, none⟩ = some (.int .u64 (wd A 3 : Nat)) := Fa.out.cell 3
  have Lm := Fm.out.lt
  have cm0 : v3.cell? ⟨gm, 0, none⟩ = some (.int .u64 (wd M 0 : Nat)) := Fm.out.cell 0
  have cm1 : v3.cell? ⟨gm, 1, none⟩ = some (.int .u64 (wd M 1 : Nat)) := Fm.out.cell 1
  have cm2 : v3.cell? ⟨gm, 2, none⟩ = some (.int .u64 (wd M 2 : Nat)) := Fm.out.cell 2
  have cm3 : v3.cell? ⟨gm, 3, none⟩ = some (.int .u64 (wd M 3 : Nat)) := Fm.out.cell 3
  go_wp2_with fail
  clear Lh ch0 ch1 ch2 ch3 La ca0 ca1 ca2 ca3 Lm cm0 cm1 cm2 cm3
  refine (HD1.out _).mono ?_
  rintro e v4 ⟨rfl, z4⟩
  have Na := Lib.hid (Fa.out.on z4)
  have Nh := Lib.hid (Fh.out.on z4)
  have Nm := Lib.hid (Fm.out.on z4)
  have No := Lib.hid (Fo.out.on z4)
  have NB := Lib.hid (bel_tr BW.out z4)
  clear BW z4 Fa Fh Fm Fo
  have Fa := Na
  have Fh := Nh
  have Fm := Nm
  have Fo := No
  have BW := NB
  clear NB Na Nh Nm No
  have Lh := Fh.out.lt
  have ch0 : v4.cell? ⟨gh, 0, none⟩ = some (.int .u64 (wd R 0 : Nat)) := Fh.out.cell 0
  have ch1 : v4.cell? ⟨gh, 1, none⟩ = some (.int .u64 (wd R 1 : Nat)) := Fh.out.cell 1
  have ch2 : v4.cell? ⟨gh, 2, none⟩ = some (.int .u64 (wd R 2 : Nat)) := Fh.out.cell 2
  have ch3 : v4.cell? ⟨gh, 3, none⟩ = some (.int .u64 (wd R 3 : Nat)) := Fh.out.cell 3
  have La := Fa.out.lt
  have ca0 : v4.cell? ⟨ga, 0, none⟩ = some (.int .u64 (wd A 0 : Nat)) := Fa.out.cell 0
  have ca1 : v4.cell? ⟨ga, 1, none⟩ = some (.int .u64 (wd A 1 : Nat)) := Fa.out.cell 1
  have ca2 : v4.cell? ⟨ga, 2, none⟩ = some (.int .u64 (wd A 2 : Nat)) := Fa.out.cell 2
  have ca3 : v4.cell? ⟨ga, 3, none⟩ = some (.int .u64 (wd A 3 : Nat)) := Fa.out.cell 3
  have Lm := Fm.out.lt
  have cm0 : v4.cell? ⟨gm, 0, none⟩ = some (.int .u64 (wd M 0 : Nat)) := Fm.out.cell 0
  have cm1 : v4.cell? ⟨gm, 1, none⟩ = some (.int .u64 (wd M 1 : Nat)) := Fm.out.cell 1
  have cm2 : v4.cell? ⟨gm, 2, none⟩ = some (.int .u64 (wd M 2 : Nat)) := Fm.out.cell 2
  have cm3 : v4.cell? ⟨gm, 3, none⟩ = some (.int .u64 (wd M 3 : Nat)) := Fm.out.cell 3
  go_wp2_with fail
  clear Lh ch0 ch1 ch2 ch3 La ca0 ca1 ca2 ca3 Lm cm0 cm1 cm2 cm3
  rw [rounds_succ]
  have Lh := Fh.out.lt
  have ch0 : v4.cell? ⟨gh, 0, none⟩ = some (.int .u64 (wd R 0 : Nat)) := Fh.out.cell 0
  have ch1 : v4.cell? ⟨gh, 1, none⟩ = some (.int .u64 (wd R 1 : Nat)) := Fh.out.cell 1
  have ch2 : v4.cell? ⟨gh, 2, none⟩ = some (.int .u64 (wd R 2 : Nat)) := Fh.out.cell 2
  have ch3 : v4.cell? ⟨gh, 3, none⟩ = some (.int .u64 (wd R 3 : Nat)) := Fh.out.cell 3
  have La := Fa.out.lt
  have ca0 : v4.cell? ⟨ga, 0, none⟩ = some (.int .u64 (wd A 0 : Nat)) := Fa.out.cell 0
  have ca1 : v4.cell? ⟨ga, 1, none⟩ = some (.int .u64 (wd A 1 : Nat)) := Fa.out.cell 1
  have ca2 : v4.cell? ⟨ga, 2, none⟩ = some (.int .u64 (wd A 2 : Nat)) := Fa.out.cell 2
  have ca3 : v4.cell? ⟨ga, 3, none⟩ = some (.int .u64 (wd A 3 : Nat)) := Fa.out.cell 3
  have Lm := Fm.out.lt
  have cm0 : v4.cell? ⟨gm, 0, none⟩ = some (.int .u64 (wd M 0 : Nat)) := Fm.out.cell 0
  have cm1 : v4.cell? ⟨gm, 1, none⟩ = some (.int .u64 (wd M 1 : Nat)) := Fm.out.cell 1
  have cm2 : v4.cell? ⟨gm, 2, none⟩ = some (.int .u64 (wd M 2 : Nat)) := Fm.out.cell 2
  have cm3 : v4.cell? ⟨gm, 3, none⟩ = some (.int .u64 (wd M 3 : Nat)) := Fm.out.cell 3
  go_wp2_with fail
  clear Lh ch0 ch1 ch2 ch3 La ca0 ca1 ca2 ca3 Lm cm0 cm1 cm2 cm3
  refine (HD2.out _).mono ?_
  rintro e v5 ⟨rfl, z5⟩
  have Na := Lib.hid (Fa.out.on z5)
  have Nh := Lib.hid (Fh.out.on z5)
  have Nm := Lib.hid (Fm.out.on z5)
  have No := Lib.hid (Fo.out.on z5)
  have NB := Lib.hid (bel_tr BW.out z5)
  clear BW z5 Fa Fh Fm Fo
  have Fa := Na
  have Fh := Nh
  have Fm := Nm
  have Fo := No
  have BW := NB
  clear NB Na Nh Nm No
  have Lh := Fh.out.lt
  have ch0 : v5.cell? ⟨gh, 0, none⟩ = some (.int .u64 (wd R 0 : Nat)) := Fh.out.cell 0
  have ch1 : v5.cell? ⟨gh, 1, none⟩ = some (.int .u64 (wd R 1 : Nat)) := Fh.out.cell 1
  have ch2 : v5.cell? ⟨gh, 2, none⟩ = some (.int .u64 (wd R 2 : Nat)) := Fh.out.cell 2
  have ch3 : v5.cell? ⟨gh, 3, none⟩ = some (.int .u64 (wd R 3 : Nat)) := Fh.out.cell 3
  have La := Fa.out.lt
  have ca0 : v5.cell? ⟨ga, 0, none⟩ = some (.int .u64 (wd A 0 : Nat)) := Fa.out.cell 0
  have ca1 : v5.cell? ⟨ga, 1, none⟩ = some (.int .u64 (wd A 1 : Nat)) := Fa.out.cell 1
  have ca2 : v5.cell? ⟨ga, 2, none⟩ = some (.int .u64 (wd A 2 : Nat)) := Fa.out.cell 2
  have ca3 : v5.cell? ⟨ga, 3, none⟩ = some (.int .u64 (wd A 3 : Nat)) := Fa.out.cell 3
  have Lm := Fm.out.lt
  have cm0 : v5.cell? ⟨gm, 0, none⟩ = some (.int .u64 (wd M 0 : Nat)) := Fm.out.cell 0
  have cm1 : v5.cell? ⟨gm, 1, none⟩ = some (.int .u64 (wd M 1 : Nat)) := Fm.out.cell 1
  have cm2 : v5.cell? ⟨gm, 2, none⟩ = some (.int .u64 (wd M 2 : Nat)) := Fm.out.cell 2
  have cm3 : v5.cell? ⟨gm, 3, none⟩ = some (.int .u64 (wd M 3 : Nat)) := Fm.out.cell 3
  go_wp2_with fail
  clear Lh ch0 ch1 ch2 ch3 La ca0 ca1 ca2 ca3 Lm cm0 cm1 cm2 cm3
  rw [rounds_succ]
  have Lh := Fh.out.lt
  have ch0 : v5.cell? ⟨gh, 0, none⟩ = some (.int .u64 (wd R 0 : Nat)) := Fh.out.cell 0
  have ch1 : v5.cell? ⟨gh, 1, none⟩ = some (.int .u64 (wd R 1 : Nat)) := Fh.out.cell 1
  have ch2 : v5.cell? ⟨gh, 2, none⟩ = some (.int .u64 (wd R 2 : Nat)) := Fh.out.cell 2
  have ch3 : v5.cell? ⟨gh, 3, none⟩ = some (.int .u64 (wd R 3 : Nat)) := Fh.out.cell 3
  have La := Fa.out.lt
  have ca0 : v5.cell? ⟨ga, 0, none⟩ = some (.int .u64 (wd A 0 : Nat)) := Fa.out.cell 0
  have ca1 : v5.cell? ⟨ga, 1, none⟩ = some (.int .u64 (wd A 1 : Nat)) := Fa.out.cell 1
  have ca2 : v5.cell? ⟨ga, 2, none⟩ = some (.int .u64 (wd A 2 : Nat)) := Fa.out.cell 2
  have ca3 : v5.cell? ⟨ga, 3, none⟩ = some (.int .u64 (wd A 3 : Nat)) := Fa.out.cell 3
  have Lm := Fm.out.lt
  have cm0 : v5.cell? ⟨gm, 0, none⟩ = some (.int .u64 (wd M 0 : Nat)) := Fm.out.cell 0
  have cm1 : v5.cell? ⟨gm, 1, none⟩ = some (.int .u64 (wd M 1 : Nat)) := Fm.out.cell 1
  have cm2 : v5.cell? ⟨gm, 2, none⟩ = some (.int .u64 (wd M 2 : Nat)) := Fm.out.cell 2
  have cm3 : v5.cell? ⟨gm, 3, none⟩ = some (.int .u64 (wd M 3 : Nat)) := Fm.out.cell 3
  go_wp2_with fail
  clear Lh ch0 ch1 ch2 ch3 La ca0 ca1 ca2 ca3 Lm cm0 cm1 cm2 cm3
  refine (HD3.out _).mono ?_
  rintro e v6 ⟨rfl, z6⟩
  have Na := Lib.hid (Fa.out.on z6)
  have Nh := Lib.hid (Fh.out.on z6)
  have Nm := Lib.hid (Fm.out.on z6)
  have No := Lib.hid (Fo.out.on z6)
  have NB := Lib.hid (bel_tr BW.out z6)
  clear BW z6 Fa Fh Fm Fo
  have Fa := Na
  have Fh := Nh
  have Fm := Nm
  have Fo := No
  have BW := NB
  clear NB Na Nh Nm No
  have Lh := Fh.out.lt
  have ch0 : v6.cell? ⟨gh, 0, none⟩ = some (.int .u64 (wd R 0 : Nat)) := Fh.out.cell 0
  have ch1 : v6.cell? ⟨gh, 1, none⟩ = some (.int .u64 (wd R 1 : Nat)) := Fh.out.cell 1
  have ch2 : v6.cell? ⟨gh, 2, none⟩ = some (.int .u64 (wd R 2 : Nat)) := Fh.out.cell 2
  have ch3 : v6.cell? ⟨gh, 3, none⟩ = some (.int .u64 (wd R 3 : Nat)) := Fh.out.cell 3
  have La := Fa.out.lt
  have ca0 : v6.cell? ⟨ga, 0, none⟩ = some (.int .u64 (wd A 0 : Nat)) := Fa.out.cell 0
  have ca1 : v6.cell? ⟨ga, 1, none⟩ = some (.int .u64 (wd A 1 : Nat)) := Fa.out.cell 1
  have ca2 : v6.cell? ⟨ga, 2, none⟩ = some (.int .u64 (wd A 2 : Nat)) := Fa.out.cell 2
  have ca3 : v6.cell? ⟨ga, 3, none⟩ = some (.int .u64 (wd A 3 : Nat)) := Fa.out.cell 3
  have Lm := Fm.out.lt
  have cm0 : v6.cell? ⟨gm, 0, none⟩ = some (.int .u64 (wd M 0 : Nat)) := Fm.out.cell 0
  have cm1 : v6.cell? ⟨gm, 1, none⟩ = some (.int .u64 (wd M 1 : Nat)) := Fm.out.cell 1
  have cm2 : v6.cell? ⟨gm, 2, none⟩ = some (.int .u64 (wd M 2 : Nat)) := Fm.out.cell 2
  have cm3 : v6.cell? ⟨gm, 3, none⟩ = some (.int .u64 (wd M 3 : Nat)) := Fm.out.cell 3
  go_wp2_with fail
  clear Lh ch0 ch1 ch2 ch3 La ca0 ca1 ca2 ca3 Lm cm0 cm1 cm2 cm3
  rw [rounds_succ]
  have Lh := Fh.out.lt
  have ch0 : v6.cell? ⟨gh, 0, none⟩ = some (.int .u64 (wd R 0 : Nat)) := Fh.out.cell 0
  have ch1 : v6.cell? ⟨gh, 1, none⟩ = some (.int .u64 (wd R 1 : Nat)) := Fh.out.cell 1
  have ch2 : v6.cell? ⟨gh, 2, none⟩ = some (.int .u64 (wd R 2 : Nat)) := Fh.out.cell 2
  have ch3 : v6.cell? ⟨gh, 3, none⟩ = some (.int .u64 (wd R 3 : Nat)) := Fh.out.cell 3
  have La := Fa.out.lt
  have ca0 : v6.cell? ⟨ga, 0, none⟩ = some (.int .u64 (wd A 0 : Nat)) := Fa.out.cell 0
  have ca1 : v6.cell? ⟨ga, 1, none⟩ = some (.int .u64 (wd A 1 : Nat)) := Fa.out.cell 1
  have ca2 : v6.cell? ⟨ga, 2, none⟩ = some (.int .u64 (wd A 2 : Nat)) := Fa.out.cell 2
  have ca3 : v6.cell? ⟨ga, 3, none⟩ = some (.int .u64 (wd A 3 : Nat)) := Fa.out.cell 3
  have Lm := Fm.out.lt
  have cm0 : v6.cell? ⟨gm, 0, none⟩ = some (.int .u64 (wd M 0 : Nat)) := Fm.out.cell 0
  have cm1 : v6.cell? ⟨gm, 1, none⟩ = some (.int .u64 (wd M 1 : Nat)) := Fm.out.cell 1
  have cm2 : v6.cell? ⟨gm, 2, none⟩ = some (.int .u64 (wd M 2 : Nat)) := Fm.out.cell 2
  have cm3 : v6.cell? ⟨gm, 3, none⟩ = some (.int .u64 (wd M 3 : Nat)) := Fm.out.cell 3
  go_wp2_with fail
  clear Lh ch0 ch1 ch2 ch3 La ca0 ca1 ca2 ca3 Lm cm0 cm1 cm2 cm3
  refine (HD4.out _).mono ?_
  rintro e v7 ⟨rfl, z7⟩
  have Na := Lib.hid (Fa.out.on z7)
  have Nh := Lib.hid (Fh.out.on z7)
  have Nm := Lib.hid (Fm.out.on z7)
  have No := Lib.hid (Fo.out.on z7)
  have NB := Lib.hid (bel_tr BW.out z7)
  clear BW z7 Fa Fh Fm Fo
  have Fa := Na
  have Fh := Nh
  have Fm := Nm
  have Fo := No
  have BW := NB
  clear NB Na Nh Nm No
  have Lh := Fh.out.lt
  have ch0 : v7.cell? ⟨gh, 0, none⟩ = some (.int .u64 (wd R 0 : Nat)) := Fh.out.cell 0
  have ch1 : v7.cell? ⟨gh, 1, none⟩ = some (.int .u64 (wd R 1 : Nat)) := Fh.out.cell 1
  have ch2 : v7.cell? ⟨gh, 2, none⟩ = some (.int .u64 (wd R 2 : Nat)) := Fh.out.cell 2
  have ch3 : v7.cell? ⟨gh, 3, none⟩ = some (.int .u64 (wd R 3 : Nat)) := Fh.out.cell 3
  have La := Fa.out.lt
  have ca0 : v7.cell? ⟨ga, 0, none⟩ = some (.int .u64 (wd A 0 : Nat)) := Fa.out.cell 0
  have ca1 : v7.cell? ⟨ga, 1, none⟩ = some (.int .u64 (wd A 1 : Nat)) := Fa.out.cell 1
  have ca2 : v7.cell? ⟨ga, 2, none⟩ = some (.int .u64 (wd A 2 : Nat)) := Fa.out.cell 2
  have ca3 : v7.cell? ⟨ga, 3, none⟩ = some (.int .u64 (wd A 3 : Nat)) := Fa.out.cell 3
  have Lm := Fm.out.lt
  have cm0 : v7.cell? ⟨gm, 0, none⟩ = some (.int .u64 (wd M 0 : Nat)) := Fm.out.cell 0
  have cm1 : v7.cell? ⟨gm, 1, none⟩ = some (.int .u64 (wd M 1 : Nat)) := Fm.out.cell 1
  have cm2 : v7.cell? ⟨gm, 2, none⟩ = some (.int .u64 (wd M 2 : Nat)) := Fm.out.cell 2
  have cm3 : v7.cell? ⟨gm, 3, none⟩ = some (.int .u64 (wd M 3 : Nat)) := Fm.out.cell 3
  go_wp2_with fail
  clear Lh ch0 ch1 ch2 ch3 La ca0 ca1 ca2 ca3 Lm cm0 cm1 cm2 cm3
  rw [rounds_succ]
  have Lh := Fh.out.lt
  have ch0 : v7.cell? ⟨gh, 0, none⟩ = some (.int .u64 (wd R 0 : Nat)) := Fh.out.cell 0
  have ch1 : v7.cell? ⟨gh, 1, none⟩ = some (.int .u64 (wd R 1 : Nat)) := Fh.out.cell 1
  have ch2 : v7.cell? ⟨gh, 2, none⟩ = some (.int .u64 (wd R 2 : Nat)) := Fh.out.cell 2
  have ch3 : v7.cell? ⟨gh, 3, none⟩ = some (.int .u64 (wd R 3 : Nat)) := Fh.out.cell 3
  have La := Fa.out.lt
  have ca0 : v7.cell? ⟨ga, 0, none⟩ = some (.int .u64 (wd A 0 : Nat)) := Fa.out.cell 0
  have ca1 : v7.cell? ⟨ga, 1, none⟩ = some (.int .u64 (wd A 1 : Nat)) := Fa.out.cell 1
  have ca2 : v7.cell? ⟨ga, 2, none⟩ = some (.int .u64 (wd A 2 : Nat)) := Fa.out.cell 2
  have ca3 : v7.cell? ⟨ga, 3, none⟩ = some (.int .u64 (wd A 3 : Nat)) := Fa.out.cell 3
  have Lm := Fm.out.lt
  have cm0 : v7.cell? ⟨gm, 0, none⟩ = some (.int .u64 (wd M 0 : Nat)) := Fm.out.cell 0
  have cm1 : v7.cell? ⟨gm, 1, none⟩ = some (.int .u64 (wd M 1 : Nat)) := Fm.out.cell 1
  have cm2 : v7.cell? ⟨gm, 2, none⟩ = some (.int .u64 (wd M 2 : Nat)) := Fm.out.cell 2
  have cm3 : v7.cell? ⟨gm, 3, none⟩ = some (.int .u64 (wd M 3 : Nat)) := Fm.out.cell 3
  go_wp2_with fail
  clear Lh ch0 ch1 ch2 ch3 La ca0 ca1 ca2 ca3 Lm cm0 cm1 cm2 cm3
  refine (HD5.out _).mono ?_
  rintro e v8 ⟨rfl, z8⟩
  have Na := Lib.hid (Fa.out.on z8)
  have Nh := Lib.hid (Fh.out.on z8)
  have Nm := Lib.hid (Fm.out.on z8)
  have No := Lib.hid (Fo.out.on z8)
  have NB := Lib.hid (bel_tr BW.out z8)
  clear BW z8 Fa Fh Fm Fo
  have Fa := Na
  have Fh := Nh
  have Fm := Nm
  have Fo := No
  have BW := NB
  clear NB Na Nh Nm No
  have Lh := Fh.out.lt
  have ch0 : v8.cell? ⟨gh, 0, none⟩ = some (.int .u64 (wd R 0 : Nat)) := Fh.out.cell 0
  have ch1 : v8.cell? ⟨gh, 1, none⟩ = some (.int .u64 (wd R 1 : Nat)) := Fh.out.cell 1
  have ch2 : v8.cell? ⟨gh, 2, none⟩ = some (.int .u64 (wd R 2 : Nat)) := Fh.out.cell 2
  have ch3 : v8.cell? ⟨gh, 3, none⟩ = some (.int .u64 (wd R 3 : Nat)) := Fh.out.cell 3
  have La := Fa.out.lt
  have ca0 : v8.cell? ⟨ga, 0, none⟩ = some (.int .u64 (wd A 0 : Nat)) := Fa.out.cell 0
  have ca1 : v8.cell? ⟨ga, 1, none⟩ = some (.int .u64 (wd A 1 : Nat)) := Fa.out.cell 1
  have ca2 : v8.cell? ⟨ga, 2, none⟩ = some (.int .u64 (wd A 2 : Nat)) := Fa.out.cell 2
  have ca3 : v8.cell? ⟨ga, 3, none⟩ = some (.int .u64 (wd A 3 : Nat)) := Fa.out.cell 3
  have Lm := Fm.out.lt
  have cm0 : v8.cell? ⟨gm, 0, none⟩ = some (.int .u64 (wd M 0 : Nat)) := Fm.out.cell 0
  have cm1 : v8.cell? ⟨gm, 1, none⟩ = some (.int .u64 (wd M 1 : Nat)) := Fm.out.cell 1
  have cm2 : v8.cell? ⟨gm, 2, none⟩ = some (.int .u64 (wd M 2 : Nat)) := Fm.out.cell 2
  have cm3 : v8.cell? ⟨gm, 3, none⟩ = some (.int .u64 (wd M 3 : Nat)) := Fm.out.cell 3
  go_wp2_with fail
  clear Lh ch0 ch1 ch2 ch3 La ca0 ca1 ca2 ca3 Lm cm0 cm1 cm2 cm3
  rw [rounds_succ]
  have Lh := Fh.out.lt
  have ch0 : v8.cell? ⟨gh, 0, none⟩ = some (.int .u64 (wd R 0 : Nat)) := Fh.out.cell 0
  have ch1 : v8.cell? ⟨gh, 1, none⟩ = some (.int .u64 (wd R 1 : Nat)) := Fh.out.cell 1
  have ch2 : v8.cell? ⟨gh, 2, none⟩ = some (.int .u64 (wd R 2 : Nat)) := Fh.out.cell 2
  have ch3 : v8.cell? ⟨gh, 3, none⟩ = some (.int .u64 (wd R 3 : Nat)) := Fh.out.cell 3
  have La := Fa.out.lt
  have ca0 : v8.cell? ⟨ga, 0, none⟩ = some (.int .u64 (wd A 0 : Nat)) := Fa.out.cell 0
  have ca1 : v8.cell? ⟨ga, 1, none⟩ = some (.int .u64 (wd A 1 : Nat)) := Fa.out.cell 1
  have ca2 : v8.cell? ⟨ga, 2, none⟩ = some (.int .u64 (wd A 2 : Nat)) := Fa.out.cell 2
  have ca3 : v8.cell? ⟨ga, 3, none⟩ = some (.int .u64 (wd A 3 : Nat)) := Fa.out.cell 3
  have Lm := Fm.out.lt
  have cm0 : v8.cell? ⟨gm, 0, none⟩ = some (.int .u64 (wd M 0 : Nat)) := Fm.out.cell 0
  have cm1 : v8.cell? ⟨gm, 1, none⟩ = some (.int .u64 (wd M 1 : Nat)) := Fm.out.cell 1
  have cm2 : v8.cell? ⟨gm, 2, none⟩ = some (.int .u64 (wd M 2 : Nat)) := Fm.out.cell 2
  have cm3 : v8.cell? ⟨gm, 3, none⟩ = some (.int .u64 (wd M 3 : Nat)) := Fm.out.cell 3
  go_wp2_with fail
  clear Lh ch0 ch1 ch2 ch3 La ca0 ca1 ca2 ca3 Lm cm0 cm1 cm2 cm3
  refine (HD6.out _).mono ?_
  rintro e v9 ⟨rfl, z9⟩
  have Na := Lib.hid (Fa.out.on z9)
  have Nh := Lib.hid (Fh.out.on z9)
  have Nm := Lib.hid (Fm.out.on z9)
  have No := Lib.hid (Fo.out.on z9)
  have NB := Lib.hid (bel_tr BW.out z9)
  clear BW z9 Fa Fh Fm Fo
  have Fa := Na
  have Fh := Nh
  have Fm := Nm
  have Fo := No
  have BW := NB
  clear NB Na Nh Nm No
  have Lh := Fh.out.lt
  have ch0 : v9.cell? ⟨gh, 0, none⟩ = some (.int .u64 (wd R 0 : Nat)) := Fh.out.cell 0
  have ch1 : v9.cell? ⟨gh, 1, none⟩ = some (.int .u64 (wd R 1 : Nat)) := Fh.out.cell 1
  have ch2 : v9.cell? ⟨gh, 2, none⟩ = some (.int .u64 (wd R 2 : Nat)) := Fh.out.cell 2
  have ch3 : v9.cell? ⟨gh, 3, none⟩ = some (.int .u64 (wd R 3 : Nat)) := Fh.out.cell 3
  have La := Fa.out.lt
  have ca0 : v9.cell? ⟨ga, 0, none⟩ = some (.int .u64 (wd A 0 : Nat)) := Fa.out.cell 0
  have ca1 : v9.cell? ⟨ga, 1, none⟩ = some (.int .u64 (wd A 1 : Nat)) := Fa.out.cell 1
  have ca2 : v9.cell? ⟨ga, 2, none⟩ = some (.int .u64 (wd A 2 : Nat)) := Fa.out.cell 2
  have ca3 : v9.cell? ⟨ga, 3, none⟩ = some (.int .u64 (wd A 3 : Nat)) := Fa.out.cell 3
  have Lm := Fm.out.lt
  have cm0 : v9.cell? ⟨gm, 0, none⟩ = some (.int .u64 (wd M 0 : Nat)) := Fm.out.cell 0
  have cm1 : v9.cell? ⟨gm, 1, none⟩ = some (.int .u64 (wd M 1 : Nat)) := Fm.out.cell 1
  have cm2 : v9.cell? ⟨gm, 2, none⟩ = some (.int .u64 (wd M 2 : Nat)) := Fm.out.cell 2
  have cm3 : v9.cell? ⟨gm, 3, none⟩ = some (.int .u64 (wd M 3 : Nat)) := Fm.out.cell 3
  go_wp2_with fail
  clear Lh ch0 ch1 ch2 ch3 La ca0 ca1 ca2 ca3 Lm cm0 cm1 cm2 cm3
  rw [rounds_succ]
  have Lh := Fh.out.lt
  have ch0 : v9.cell? ⟨gh, 0, none⟩ = some (.int .u64 (wd R 0 : Nat)) := Fh.out.cell 0
  have ch1 : v9.cell? ⟨gh, 1, none⟩ = some (.int .u64 (wd R 1 : Nat)) := Fh.out.cell 1
  have ch2 : v9.cell? ⟨gh, 2, none⟩ = some (.int .u64 (wd R 2 : Nat)) := Fh.out.cell 2
  have ch3 : v9.cell? ⟨gh, 3, none⟩ = some (.int .u64 (wd R 3 : Nat)) := Fh.out.cell 3
  have La := Fa.out.lt
  have ca0 : v9.cell? ⟨ga, 0, none⟩ = some (.int .u64 (wd A 0 : Nat)) := Fa.out.cell 0
  have ca1 : v9.cell? ⟨ga, 1, none⟩ = some (.int .u64 (wd A 1 : Nat)) := Fa.out.cell 1
  have ca2 : v9.cell? ⟨ga, 2, none⟩ = some (.int .u64 (wd A 2 : Nat)) := Fa.out.cell 2
  have ca3 : v9.cell? ⟨ga, 3, none⟩ = some (.int .u64 (wd A 3 : Nat)) := Fa.out.cell 3
  have Lm := Fm.out.lt
  have cm0 : v9.cell? ⟨gm, 0, none⟩ = some (.int .u64 (wd M 0 : Nat)) := Fm.out.cell 0
  have cm1 : v9.cell? ⟨gm, 1, none⟩ = some (.int .u64 (wd M 1 : Nat)) := Fm.out.cell 1
  have cm2 : v9.cell? ⟨gm, 2, none⟩ = some (.int .u64 (wd M 2 : Nat)) := Fm.out.cell 2
  have cm3 : v9.cell? ⟨gm, 3, none⟩ = some (.int .u64 (wd M 3 : Nat)) := Fm.out.cell 3
  go_wp2_with fail
  clear Lh ch0 ch1 ch2 ch3 La ca0 ca1 ca2 ca3 Lm cm0 cm1 cm2 cm3
  refine (HD7.out _).mono ?_
  rintro e v10 ⟨rfl, z10⟩
  have Na := Lib.hid (Fa.out.on z10)
  have Nh := Lib.hid (Fh.out.on z10)
  have Nm := Lib.hid (Fm.out.on z10)
  have No := Lib.hid (Fo.out.on z10)
  have NB := Lib.hid (bel_tr BW.out z10)
  clear BW z10 Fa Fh Fm Fo
  have Fa := Na
  have Fh := Nh
  have Fm := Nm
  have Fo := No
  have BW := NB
  clear NB Na Nh Nm No
  have Lh := Fh.out.lt
  have ch0 : v10.cell? ⟨gh, 0, none⟩ = some (.int .u64 (wd R 0 : Nat)) := Fh.out.cell 0
  have ch1 : v10.cell? ⟨gh, 1, none⟩ = some (.int .u64 (wd R 1 : Nat)) := Fh.out.cell 1
  have ch2 : v10.cell? ⟨gh, 2, none⟩ = some (.int .u64 (wd R 2 : Nat)) := Fh.out.cell 2
  have ch3 : v10.cell? ⟨gh, 3, none⟩ = some (.int .u64 (wd R 3 : Nat)) := Fh.out.cell 3
  have La := Fa.out.lt
  have ca0 : v10.cell? ⟨ga, 0, none⟩ = some (.int .u64 (wd A 0 : Nat)) := Fa.out.cell 0
  have ca1 : v10.cell? ⟨ga, 1, none⟩ = some (.int .u64 (wd A 1 : Nat)) := Fa.out.cell 1
  have ca2 : v10.cell? ⟨ga, 2, none⟩ = some (.int .u64 (wd A 2 : Nat)) := Fa.out.cell 2
  have ca3 : v10.cell? ⟨ga, 3, none⟩ = some (.int .u64 (wd A 3 : Nat)) := Fa.out.cell 3
  have Lm := Fm.out.lt
  have cm0 : v10.cell? ⟨gm, 0, none⟩ = some (.int .u64 (wd M 0 : Nat)) := Fm.out.cell 0
  have cm1 : v10.cell? ⟨gm, 1, none⟩ = some (.int .u64 (wd M 1 : Nat)) := Fm.out.cell 1
  have cm2 : v10.cell? ⟨gm, 2, none⟩ = some (.int .u64 (wd M 2 : Nat)) := Fm.out.cell 2
  have cm3 : v10.cell? ⟨gm, 3, none⟩ = some (.int .u64 (wd M 3 : Nat)) := Fm.out.cell 3
  go_wp2_with fail
  clear Lh ch0 ch1 ch2 ch3 La ca0 ca1 ca2 ca3 Lm cm0 cm1 cm2 cm3
  rw [rounds_succ]
  go_wp2_with fail
  refine (HO.out _).mono ?_
  rintro e v11 ⟨rfl, z11⟩
  have Na := Lib.hid (Fa.out.on z11)
  have Nh := Lib.hid (Fh.out.on z11)
  have Nm := Lib.hid (Fm.out.on z11)
  have No := Lib.hid (Fo.out.on z11)
  have NB := Lib.hid (bel_tr BW.out z11)
  clear BW z11 Fa Fh Fm Fo
  have Fa := Na
  have Fh := Nh
  have Fm := Nm
  have Fo := No
  have BW := NB
  clear NB Na Nh Nm No
  have Lo := Fo.out.lt
  have co0 : v11.cell? ⟨go, 0, none⟩ = some (.int .u64 0) := Fo.out.cell 0
  have co1 : v11.cell? ⟨go, 1, none⟩ = some (.int .u64 0) := Fo.out.cell 1
  have co2 : v11.cell? ⟨go, 2, none⟩ = some (.int .u64 0) := Fo.out.cell 2
  have co3 : v11.cell? ⟨go, 3, none⟩ = some (.int .u64 0) := Fo.out.cell 3
  have fo0 : v11.frozen? ⟨go, 0, none⟩ = false := Fo.out.frozen 0
  have fo1 : v11.frozen? ⟨go, 1, none⟩ = false := Fo.out.frozen 1
  have fo2 : v11.frozen? ⟨go, 2, none⟩ = false := Fo.out.frozen 2
  have fo3 : v11.frozen? ⟨go, 3, none⟩ = false := Fo.out.frozen 3
  go_wp2_with fail
  clear Lo co0 co1 co2 co3 fo0 fo1 fo2 fo3
  have Na_0 : At ((((v11.setCell ⟨go, 0, none⟩ (.int .u64 (wd r8 0 : Nat))).setCell ⟨go, 1, none⟩ (.int .u64 (wd r8 1 : Nat))).setCell ⟨go, 2, none⟩ (.int .u64 (wd r8 2 : Nat))).setCell ⟨go, 3, none⟩ (.int .u64 (wd r8 3 : Nat))) ga 24 #[.int .u64 (wd A 0 : Nat), .int .u64 (wd A 1 : Nat), .int .u64 (wd A 2 : Nat), .int .u64 (wd A 3 : Nat)] := (Fa.out).far4 Dao _ _ _ _
  have Nh_0 : At ((((v11.setCell ⟨go, 0, none⟩ (.int .u64 (wd r8 0 : Nat))).setCell ⟨go, 1, none⟩ (.int .u64 (wd r8 1 : Nat))).setCell ⟨go, 2, none⟩ (.int .u64 (wd r8 2 : Nat))).setCell ⟨go, 3, none⟩ (.int .u64 (wd r8 3 : Nat))) gh 24 #[.int .u64 (wd R 0 : Nat), .int .u64 (wd R 1 : Nat), .int .u64 (wd R 2 : Nat), .int .u64 (wd R 3 : Nat)] := (Fh.out).far4 Dho _ _ _ _
  have Nm_0 : At ((((v11.setCell ⟨go, 0, none⟩ (.int .u64 (wd r8 0 : Nat))).setCell ⟨go, 1, none⟩ (.int .u64 (wd r8 1 : Nat))).setCell ⟨go, 2, none⟩ (.int .u64 (wd r8 2 : Nat))).setCell ⟨go, 3, none⟩ (.int .u64 (wd r8 3 : Nat))) gm 24 #[.int .u64 (wd M 0 : Nat), .int .u64 (wd M 1 : Nat), .int .u64 (wd M 2 : Nat), .int .u64 (wd M 3 : Nat)] := (Fm.out).far4 Dmo _ _ _ _
  have No_0 : At ((((v11.setCell ⟨go, 0, none⟩ (.int .u64 (wd r8 0 : Nat))).setCell ⟨go, 1, none⟩ (.int .u64 (wd r8 1 : Nat))).setCell ⟨go, 2, none⟩ (.int .u64 (wd r8 2 : Nat))).setCell ⟨go, 3, none⟩ (.int .u64 (wd r8 3 : Nat))) go 24 #[.int .u64 (wd r8 0 : Nat), .int .u64 (wd r8 1 : Nat), .int .u64 (wd r8 2 : Nat), .int .u64 (wd r8 3 : Nat)] := (Fo.out).put4 _ _ _ _
  have NB_0 : Below w.heap.size w ((((v11.setCell ⟨go, 0, none⟩ (.int .u64 (wd r8 0 : Nat))).setCell ⟨go, 1, none⟩ (.int .u64 (wd r8 1 : Nat))).setCell ⟨go, 2, none⟩ (.int .u64 (wd r8 2 : Nat))).setCell ⟨go, 3, none⟩ (.int .u64 (wd r8 3 : Nat))) := ((((BW.out).setCell Eo _).setCell Eo _).setCell Eo _).setCell Eo _
  have Na := Na_0
  have Nh := Nh_0
  have Nm := Nm_0
  have No := No_0
  have NB := NB_0
  clear BW Fa Fh Fm Fo Na_0 Nh_0 Nm_0 No_0 NB_0
  generalize ((((v11.setCell ⟨go, 0, none⟩ (.int .u64 (wd r8 0 : Nat))).setCell ⟨go, 1, none⟩ (.int .u64 (wd r8 1 : Nat))).setCell ⟨go, 2, none⟩ (.int .u64 (wd r8 2 : Nat))).setCell ⟨go, 3, none⟩ (.int .u64 (wd r8 3 : Nat))) = W12 at *
  have Fa := Lib.hid Na
  have Fh := Lib.hid Nh
  have Fm := Lib.hid Nm
  have Fo := Lib.hid No
  have BW := Lib.hid NB
  clear NB Na Nh Nm No
  have Lo := Fo.out.lt
  have co0 : W12.cell? ⟨go, 0, none⟩ = some (.int .u64 (wd r8 0 : Nat)) := Fo.out.cell 0
  have co1 : W12.cell? ⟨go, 1, none⟩ = some (.int .u64 (wd r8 1 : Nat)) := Fo.out.cell 1
  have co2 : W12.cell? ⟨go, 2, none⟩ = some (.int .u64 (wd r8 2 : Nat)) := Fo.out.cell 2
  have co3 : W12.cell? ⟨go, 3, none⟩ = some (.int .u64 (wd r8 3 : Nat)) := Fo.out.cell 3
  refine bodyPost_ret (v := .tuple #[num r8, .int .i64 0]) (by simp [results, Try.results14, go_sem, *]) rfl ⟨rfl, BW.out⟩

theorem word_step (T M j r w : Nat) (hM : 0 < M) (hr : r = T / 18446744073709551616 ^ (j + 1) % M) (hw : w = T / 18446744073709551616 ^ j % 18446744073709551616) : (r * 18446744073709551616 + w) % M = T / 18446744073709551616 ^ j % M := by
  have e : T / 18446744073709551616 ^ j = T / 18446744073709551616 ^ (j + 1) * 18446744073709551616 + w := by
    rw [hw, Nat.pow_succ, ← Nat.div_div_eq_div_mul, Nat.mul_comm _ 18446744073709551616]; exact (Nat.div_add_mod _ _).symm
  rw [e, hr, Nat.add_mod, Nat.mul_mod, Nat.mod_mod, ← Nat.mul_mod, ← Nat.add_mod]
theorem wide_hi (R A k : Nat) (hA : A < 2 ^ 256) : wide R A / 18446744073709551616 ^ (k + 4) % 18446744073709551616 = wd R k := by
  unfold wide wd
  rw [Nat.pow_add, Nat.mul_comm (18446744073709551616 ^ k), ← Nat.div_div_eq_div_mul, show (18446744073709551616 : Nat) ^ 4 = 2 ^ 256 from rfl, Nat.mul_comm R, Nat.mul_add_div (by decide), Nat.div_eq_of_lt hA, Nat.add_zero]
theorem wide_lo (R A k : Nat) (hk : k < 4) : wide R A / 18446744073709551616 ^ k % 18446744073709551616 = wd A k := by
  unfold wide wd
  have e : R * 2 ^ 256 = 18446744073709551616 ^ k * (R * 18446744073709551616 ^ (3 - k) * 18446744073709551616) := by
    rw [show (2 : Nat) ^ 256 = 18446744073709551616 ^ k * (18446744073709551616 ^ (3 - k) * 18446744073709551616) by rw [← Nat.pow_succ, ← Nat.pow_add, show k + (3 - k + 1) = 4 by omega]]
    ac_rfl
  rw [e, Nat.mul_add_div (Nat.pow_pos (by decide)), Nat.add_comm, Nat.add_mul_mod_self_right]
set_option maxHeartbeats 1000000 in
theorem rwide_word (A R M : Nat) (hA : A < 2 ^ 256) (hR : R < 2 ^ 256) (hM : M < 18446744073709551616) (h0 : M ≠ 0) (w : World) :
    Calls Try.prog 14 #[num A, num R, num M] w fun e w' => e = .returned (.tuple #[num (wide R A % M), .int .i64 0]) ∧ Below w.heap.size w w' := by
  have hm0 : wd M 0 = M := by unfold wd; rw [Nat.pow_zero, Nat.div_one, Nat.mod_eq_of_lt hM]
  have hM0 : 0 < M := by omega
  obtain ⟨T, hT⟩ : ∃ T, T = wide R A := ⟨_, rfl⟩
  have lt : ∀ x, x % M < M := fun x => Nat.mod_lt _ hM0
  have wl : ∀ x k, wd x k < 18446744073709551616 := fun x k => Nat.mod_lt _ (by decide)
  have top : T / 18446744073709551616 ^ 8 % M = 0 := by
    have : T < 18446744073709551616 ^ 8 := by
      rw [hT]; unfold wide
      have : R * 2 ^ 256 + 2 ^ 256 ≤ 2 ^ 256 * 2 ^ 256 := by rw [← Nat.succ_mul]; exact Nat.mul_le_mul_right _ hR
      have e : (18446744073709551616 : Nat) ^ 8 = 2 ^ 256 * 2 ^ 256 := rfl
      rw [e]; omega
    rw [Nat.div_eq_of_lt this, Nat.zero_mod]
  have hi : ∀ k, wd R k = T / 18446744073709551616 ^ (k + 4) % 18446744073709551616 := fun k => by rw [hT, wide_hi R A k hA]
  have lo : ∀ k, k < 4 → wd A k = T / 18446744073709551616 ^ k % 18446744073709551616 := fun k hk => by rw [hT, wide_lo R A k hk]
  have st : ∀ (j r x : Nat), r = T / 18446744073709551616 ^ (j + 1) % M → x = T / 18446744073709551616 ^ j % 18446744073709551616 → ∀ w, Calls Try.prog 40 #[.int .u64 (r : Nat), .int .u64 (x : Nat), .int .u64 (wd M 0 : Nat)] w fun e w' => e = .returned (.tuple #[.int .u64 (((r * 18446744073709551616 + x) / M : Nat) : Int), .int .u64 ((T / 18446744073709551616 ^ j % M : Nat) : Int)]) ∧ Below w.heap.size w w' := fun j r x hr hx w => by
    rw [hm0, ← word_step T M j r x hM0 hr hx]
    exact div64_any r x M (by rw [hr]; exact lt _) hM (by rw [hx]; exact Nat.mod_lt _ (by decide)) w
  have res : wide R A % M = T / 18446744073709551616 ^ 0 % M := by rw [Nat.pow_zero, Nat.div_one, hT]
  rw [res]
  have EW := rword_any M (by omega)
  rw [show decide (M < 18446744073709551616) = true from decide_eq_true hM] at EW
  exact rwide_w A R M _ _ _ _ _ _ _ _ _ _ _ _ _ _ _ _ (fun w => by rw [eqZ M (by omega)]; simp [h0]) EW
    (st 7 0 (wd R 3) top.symm (hi 3)) (st 6 _ (wd R 2) rfl (hi 2)) (st 5 _ (wd R 1) rfl (hi 1)) (st 4 _ (wd R 0) rfl (hi 0)) (st 3 _ (wd A 3) rfl (lo 3 (by decide))) (st 2 _ (wd A 2) rfl (lo 2 (by decide))) (st 1 _ (wd A 1) rfl (lo 1 (by decide))) (st 0 _ (wd A 0) rfl (lo 0 (by decide)))
    (rof1_any _ (Nat.lt_trans (lt _) hM)) w
end Go.Proofs.Ytmhmdbjjmmmgkaa
