/-
  The walk of LimbsShift: it answers true, and nothing that was there is changed.
-/
import Derived.Test.YtamglpncdgiocaaShiftN
namespace Go.Proofs.Ytamglpncdgiocaa
open Go.RowKit
attribute [local go_sem ↓] Go.wp_at_zero Go.wp_at_succ

set_option maxRecDepth 100000 in
set_option maxHeartbeats 8000000 in
theorem shift_walk (X : Nat) (hX : X < 2 ^ 256) (n : Nat) (hn : n < 256) (w : World) :
    Calls Try.prog 6 #[num X, .int .u8 (n : Nat)] w fun e w' => e = .returned (.bool true) ∧ Below w.heap.size w w' := by
  obtain ⟨k, hk⟩ : ∃ k, k = n / 64 := ⟨_, rfl⟩
  obtain ⟨p, hp⟩ : ∃ p, p = n % 64 := ⟨_, rfl⟩
  have hk4 : k < 4 := by omega
  have hp64 : p < 64 := by omega
  have r1 : ((n : Int) / 64) = (k : Nat) := by omega
  have r2 : ((n : Int) % 64) = (p : Nat) := by omega
  have r3 : (k : Int) < 4 := by omega
  have hT : (2 : Nat) ^ n < 2 ^ 256 := Nat.pow_lt_pow_right (by decide) hn
  obtain ⟨L, H, hL, hH, eL, C1⟩ := mul_ex X (2 ^ n) hX hT
  have C2 := shift_any X hX (n : Int) (by omega) (by omega)
  have C3 := shift_any X hX ((n : Int) - 256) (by omega) (by omega)
  have eLL : shN X (n : Int) = L := by rw [shN_left X n hn, eL]; omega
  have eHH : shN X ((n : Int) - 256) = H := by rw [shN_high X n hX hn, eL]; omega
  have C4 := shift_any L hL (-(n : Int)) (by omega) (by omega)
  have kB : ∀ i : Nat, i < 256 → bt (shN L (-(n : Int))) (i : Int) = if i < 256 - n then bt X (i : Int) else 0 := fun i hi => by rw [← eLL]; exact back_bit X n i hX hn hi
  have kR : ∀ i : Nat, i < 256 → bt (shN X (-(n : Int))) (i : Int) = bt X ((i : Int) + n) := fun i hi => right_bit X n i hX hi
  have hK := sh_lt L hL (-(n : Int))
  have hR := sh_lt X hX (-(n : Int))
  have C5 := shift_any X hX (-(n : Int)) (by omega) (by omega)
  rw [eLL] at C2
  rw [eHH] at C3
  generalize shN L (-(n : Int)) = bk at *
  generalize shN X (-(n : Int)) = sr at *
  have C6 := shift_any X hX 256 (by omega) (by omega)
  rw [sh_256] at C6
  have C7 := shift_any X hX (-256) (by omega) (by omega)
  rw [sh_m256 X hX] at C7
  have C8 := shift_any X hX 0 (by omega) (by omega)
  rw [shN_zero X hX] at C8
  have hset : ([.int .u64 0, .int .u64 0, .int .u64 0, .int .u64 0] : List Value).set k (.int .u64 ((2 : Int) ^ p)) = [.int .u64 (wd (2 ^ n) 0 : Nat), .int .u64 (wd (2 ^ n) 1 : Nat), .int .u64 (wd (2 ^ n) 2 : Nat), .int .u64 (wd (2 ^ n) 3 : Nat)] := by
    have := congrArg Array.toList (pow_words n k p hn hk hp)
    simpa using this
  have r4 : IntKind.u64.wrap (2 ^ p) = ((2 ^ p : Nat) : Int) := by
    have : (2 : Nat) ^ p < 18446744073709551616 := Nat.pow_lt_pow_right (m := p) (n := 64) (by decide) hp64
    rw [IntKind.wrap_u64]
    have e : (2 : Int) ^ p = ((2 ^ p : Nat) : Int) := by simp
    rw [e]
    generalize (2 : Nat) ^ p = q at *
    omega
  generalize (2 : Nat) ^ n = T at *
  have r5 : IntKind.i64.wrap ((n : Int) - 256) = (n : Int) - 256 := by rw [IntKind.wrap_i64]; omega
  have r6 : IntKind.i64.wrap (-(n : Int)) = -(n : Int) := by rw [IntKind.wrap_i64]; omega
  have r7 : IntKind.i64.wrap (256 - (n : Int)) = 256 - (n : Int) := by rw [IntKind.wrap_i64]; omega
  have A1 := Lib.hid C1; have A2 := Lib.hid C2; have A3 := Lib.hid C3; have A4 := Lib.hid C4; have A5 := Lib.hid C5; have A6 := Lib.hid C6; have A7 := Lib.hid C7; have A8 := Lib.hid C8
  have KB := Lib.hid kB; have KR := Lib.hid kR
  have AB := Lib.hid (fun i w => bit_any bk hK i w); have AX := Lib.hid (fun i w => bit_any X hX i w); have AR := Lib.hid (fun i w => bit_any sr hR i w)
  clear C1 C2 C3 C4 C5 C6 C7 C8 kB kR hK hR eL eLL eHH hL hH hk hp hT hX
  have q0 := eqY L
  have q1 := eqY H
  have q2 := eqY 0
  have q3 := eqY X
  go_enter Try.func6, Try.ntmps6
  go_wp2_with fail
  clear hset r1 r2 r3 r4
  have Na : At ((w.alloc (.cells #[.int .u64 (wd X 0 : Nat), .int .u64 (wd X 1 : Nat), .int .u64 (wd X 2 : Nat), .int .u64 (wd X 3 : Nat)] 24)).alloc (.cells #[.int .u64 (wd T 0 : Nat), .int .u64 (wd T 1 : Nat), .int .u64 (wd T 2 : Nat), .int .u64 (wd T 3 : Nat)] 24)) (w.heap.size) 24 #[.int .u64 (wd X 0 : Nat), .int .u64 (wd X 1 : Nat), .int .u64 (wd X 2 : Nat), .int .u64 (wd X 3 : Nat)] := (At.at_ _ _ _ _ (by simp)).alloc _
  have Ntw : At ((w.alloc (.cells #[.int .u64 (wd X 0 : Nat), .int .u64 (wd X 1 : Nat), .int .u64 (wd X 2 : Nat), .int .u64 (wd X 3 : Nat)] 24)).alloc (.cells #[.int .u64 (wd T 0 : Nat), .int .u64 (wd T 1 : Nat), .int .u64 (wd T 2 : Nat), .int .u64 (wd T 3 : Nat)] 24)) (w.heap.size + 1) 24 #[.int .u64 (wd T 0 : Nat), .int .u64 (wd T 1 : Nat), .int .u64 (wd T 2 : Nat), .int .u64 (wd T 3 : Nat)] := At.at_ _ _ _ _ (by simp)
  have NB : Below w.heap.size w ((w.alloc (.cells #[.int .u64 (wd X 0 : Nat), .int .u64 (wd X 1 : Nat), .int .u64 (wd X 2 : Nat), .int .u64 (wd X 3 : Nat)] 24)).alloc (.cells #[.int .u64 (wd T 0 : Nat), .int .u64 (wd T 1 : Nat), .int .u64 (wd T 2 : Nat), .int .u64 (wd T 3 : Nat)] 24)) := by repeat (first | exact Below.refl _ _ | refine gr_alloc ?_ _ | refine Below.drew ?_ | refine bel_tr ?_ (by assumption))
  generalize ((w.alloc (.cells #[.int .u64 (wd X 0 : Nat), .int .u64 (wd X 1 : Nat), .int .u64 (wd X 2 : Nat), .int .u64 (wd X 3 : Nat)] 24)).alloc (.cells #[.int .u64 (wd T 0 : Nat), .int .u64 (wd T 1 : Nat), .int .u64 (wd T 2 : Nat), .int .u64 (wd T 3 : Nat)] 24)) = W0 at *
  generalize w.heap.size + 1 = gtw at *
  generalize w.heap.size = ga at Na ⊢
  have Fa := Lib.hid Na
  have Ftw := Lib.hid Ntw
  have BW := Lib.hid NB
  clear NB Na Ntw
  refine (A1.out _).mono ?_
  rintro e v1 ⟨rfl, z1⟩
  have Na := Lib.hid (Fa.out.on z1)
  have Ntw := Lib.hid (Ftw.out.on z1)
  have NB := Lib.hid (bel_tr BW.out z1)
  clear BW z1 Fa Ftw
  have Fa := Na
  have Ftw := Ntw
  have BW := NB
  clear NB Na Ntw
  have La := Fa.out.lt
  have ca0 : v1.cell? ⟨ga, 0, none⟩ = some (.int .u64 (wd X 0 : Nat)) := Fa.out.cell 0
  have ca1 : v1.cell? ⟨ga, 1, none⟩ = some (.int .u64 (wd X 1 : Nat)) := Fa.out.cell 1
  have ca2 : v1.cell? ⟨ga, 2, none⟩ = some (.int .u64 (wd X 2 : Nat)) := Fa.out.cell 2
  have ca3 : v1.cell? ⟨ga, 3, none⟩ = some (.int .u64 (wd X 3 : Nat)) := Fa.out.cell 3
  go_wp2_with fail
  clear La ca0 ca1 ca2 ca3
  clear Ftw
  have Nlo : At ((v1.alloc (.cells #[.int .u64 (wd L 0 : Nat), .int .u64 (wd L 1 : Nat), .int .u64 (wd L 2 : Nat), .int .u64 (wd L 3 : Nat)] 24)).alloc (.cells #[.int .u64 (wd H 0 : Nat), .int .u64 (wd H 1 : Nat), .int .u64 (wd H 2 : Nat), .int .u64 (wd H 3 : Nat)] 24)) (v1.heap.size) 24 #[.int .u64 (wd L 0 : Nat), .int .u64 (wd L 1 : Nat), .int .u64 (wd L 2 : Nat), .int .u64 (wd L 3 : Nat)] := (At.at_ _ _ _ _ (by simp)).alloc _
  have Nhi : At ((v1.alloc (.cells #[.int .u64 (wd L 0 : Nat), .int .u64 (wd L 1 : Nat), .int .u64 (wd L 2 : Nat), .int .u64 (wd L 3 : Nat)] 24)).alloc (.cells #[.int .u64 (wd H 0 : Nat), .int .u64 (wd H 1 : Nat), .int .u64 (wd H 2 : Nat), .int .u64 (wd H 3 : Nat)] 24)) (v1.heap.size + 1) 24 #[.int .u64 (wd H 0 : Nat), .int .u64 (wd H 1 : Nat), .int .u64 (wd H 2 : Nat), .int .u64 (wd H 3 : Nat)] := At.at_ _ _ _ _ (by simp)
  have Na : At ((v1.alloc (.cells #[.int .u64 (wd L 0 : Nat), .int .u64 (wd L 1 : Nat), .int .u64 (wd L 2 : Nat), .int .u64 (wd L 3 : Nat)] 24)).alloc (.cells #[.int .u64 (wd H 0 : Nat), .int .u64 (wd H 1 : Nat), .int .u64 (wd H 2 : Nat), .int .u64 (wd H 3 : Nat)] 24)) ga 24 #[.int .u64 (wd X 0 : Nat), .int .u64 (wd X 1 : Nat), .int .u64 (wd X 2 : Nat), .int .u64 (wd X 3 : Nat)] := (Fa.out.alloc _).alloc _
  have NB : Below w.heap.size w ((v1.alloc (.cells #[.int .u64 (wd L 0 : Nat), .int .u64 (wd L 1 : Nat), .int .u64 (wd L 2 : Nat), .int .u64 (wd L 3 : Nat)] 24)).alloc (.cells #[.int .u64 (wd H 0 : Nat), .int .u64 (wd H 1 : Nat), .int .u64 (wd H 2 : Nat), .int .u64 (wd H 3 : Nat)] 24)) := gr_alloc (gr_alloc BW.out _) _
  clear BW Fa
  generalize ((v1.alloc (.cells #[.int .u64 (wd L 0 : Nat), .int .u64 (wd L 1 : Nat), .int .u64 (wd L 2 : Nat), .int .u64 (wd L 3 : Nat)] 24)).alloc (.cells #[.int .u64 (wd H 0 : Nat), .int .u64 (wd H 1 : Nat), .int .u64 (wd H 2 : Nat), .int .u64 (wd H 3 : Nat)] 24)) = W2 at *
  generalize v1.heap.size + 1 = ghi at *
  generalize v1.heap.size = glo at *
  have Fa := Lib.hid Na
  have Flo := Lib.hid Nlo
  have Fhi := Lib.hid Nhi
  have BW := Lib.hid NB
  clear NB Na Nlo Nhi
  refine (A2.out _).mono ?_
  rintro e v3 ⟨rfl, z3⟩
  have Na := Lib.hid (Fa.out.on z3)
  have Nlo := Lib.hid (Flo.out.on z3)
  have Nhi := Lib.hid (Fhi.out.on z3)
  have NB := Lib.hid (bel_tr BW.out z3)
  clear BW z3 Fa Flo Fhi
  have Fa := Na
  have Flo := Nlo
  have Fhi := Nhi
  have BW := NB
  clear NB Na Nlo Nhi
  have La := Fa.out.lt
  have ca0 : v3.cell? ⟨ga, 0, none⟩ = some (.int .u64 (wd X 0 : Nat)) := Fa.out.cell 0
  have ca1 : v3.cell? ⟨ga, 1, none⟩ = some (.int .u64 (wd X 1 : Nat)) := Fa.out.cell 1
  have ca2 : v3.cell? ⟨ga, 2, none⟩ = some (.int .u64 (wd X 2 : Nat)) := Fa.out.cell 2
  have ca3 : v3.cell? ⟨ga, 3, none⟩ = some (.int .u64 (wd X 3 : Nat)) := Fa.out.cell 3
  go_wp2_with fail
  clear La ca0 ca1 ca2 ca3
  have Nlf : At (v3.alloc (.cells #[.int .u64 (wd L 0 : Nat), .int .u64 (wd L 1 : Nat), .int .u64 (wd L 2 : Nat), .int .u64 (wd L 3 : Nat)] 24)) (v3.heap.size) 24 #[.int .u64 (wd L 0 : Nat), .int .u64 (wd L 1 : Nat), .int .u64 (wd L 2 : Nat), .int .u64 (wd L 3 : Nat)] := At.at_ _ _ _ _ (by simp)
  have Na : At (v3.alloc (.cells #[.int .u64 (wd L 0 : Nat), .int .u64 (wd L 1 : Nat), .int .u64 (wd L 2 : Nat), .int .u64 (wd L 3 : Nat)] 24)) ga 24 #[.int .u64 (wd X 0 : Nat), .int .u64 (wd X 1 : Nat), .int .u64 (wd X 2 : Nat), .int .u64 (wd X 3 : Nat)] := Fa.out.alloc _
  have Nlo : At (v3.alloc (.cells #[.int .u64 (wd L 0 : Nat), .int .u64 (wd L 1 : Nat), .int .u64 (wd L 2 : Nat), .int .u64 (wd L 3 : Nat)] 24)) glo 24 #[.int .u64 (wd L 0 : Nat), .int .u64 (wd L 1 : Nat), .int .u64 (wd L 2 : Nat), .int .u64 (wd L 3 : Nat)] := Flo.out.alloc _
  have Nhi : At (v3.alloc (.cells #[.int .u64 (wd L 0 : Nat), .int .u64 (wd L 1 : Nat), .int .u64 (wd L 2 : Nat), .int .u64 (wd L 3 : Nat)] 24)) ghi 24 #[.int .u64 (wd H 0 : Nat), .int .u64 (wd H 1 : Nat), .int .u64 (wd H 2 : Nat), .int .u64 (wd H 3 : Nat)] := Fhi.out.alloc _
  have NB : Below w.heap.size w (v3.alloc (.cells #[.int .u64 (wd L 0 : Nat), .int .u64 (wd L 1 : Nat), .int .u64 (wd L 2 : Nat), .int .u64 (wd L 3 : Nat)] 24)) := gr_alloc BW.out _
  clear BW Fa Flo Fhi
  generalize (v3.alloc (.cells #[.int .u64 (wd L 0 : Nat), .int .u64 (wd L 1 : Nat), .int .u64 (wd L 2 : Nat), .int .u64 (wd L 3 : Nat)] 24)) = W4 at *
  generalize v3.heap.size = glf at *
  have Fa := Lib.hid Na
  have Flo := Lib.hid Nlo
  have Fhi := Lib.hid Nhi
  have Flf := Lib.hid Nlf
  have BW := Lib.hid NB
  clear NB Na Nlo Nhi Nlf
  refine (A3.out _).mono ?_
  rintro e v5 ⟨rfl, z5⟩
  have Na := Lib.hid (Fa.out.on z5)
  have Nlo := Lib.hid (Flo.out.on z5)
  have Nhi := Lib.hid (Fhi.out.on z5)
  have Nlf := Lib.hid (Flf.out.on z5)
  have NB := Lib.hid (bel_tr BW.out z5)
  clear BW z5 Fa Flo Fhi Flf
  have Fa := Na
  have Flo := Nlo
  have Fhi := Nhi
  have Flf := Nlf
  have BW := NB
  clear NB Na Nlo Nhi Nlf
  go_wp2_with fail
  have Nrt : At (v5.alloc (.cells #[.int .u64 (wd H 0 : Nat), .int .u64 (wd H 1 : Nat), .int .u64 (wd H 2 : Nat), .int .u64 (wd H 3 : Nat)] 24)) (v5.heap.size) 24 #[.int .u64 (wd H 0 : Nat), .int .u64 (wd H 1 : Nat), .int .u64 (wd H 2 : Nat), .int .u64 (wd H 3 : Nat)] := At.at_ _ _ _ _ (by simp)
  have Na : At (v5.alloc (.cells #[.int .u64 (wd H 0 : Nat), .int .u64 (wd H 1 : Nat), .int .u64 (wd H 2 : Nat), .int .u64 (wd H 3 : Nat)] 24)) ga 24 #[.int .u64 (wd X 0 : Nat), .int .u64 (wd X 1 : Nat), .int .u64 (wd X 2 : Nat), .int .u64 (wd X 3 : Nat)] := Fa.out.alloc _
  have Nlo : At (v5.alloc (.cells #[.int .u64 (wd H 0 : Nat), .int .u64 (wd H 1 : Nat), .int .u64 (wd H 2 : Nat), .int .u64 (wd H 3 : Nat)] 24)) glo 24 #[.int .u64 (wd L 0 : Nat), .int .u64 (wd L 1 : Nat), .int .u64 (wd L 2 : Nat), .int .u64 (wd L 3 : Nat)] := Flo.out.alloc _
  have Nhi : At (v5.alloc (.cells #[.int .u64 (wd H 0 : Nat), .int .u64 (wd H 1 : Nat), .int .u64 (wd H 2 : Nat), .int .u64 (wd H 3 : Nat)] 24)) ghi 24 #[.int .u64 (wd H 0 : Nat), .int .u64 (wd H 1 : Nat), .int .u64 (wd H 2 : Nat), .int .u64 (wd H 3 : Nat)] := Fhi.out.alloc _
  have Nlf : At (v5.alloc (.cells #[.int .u64 (wd H 0 : Nat), .int .u64 (wd H 1 : Nat), .int .u64 (wd H 2 : Nat), .int .u64 (wd H 3 : Nat)] 24)) glf 24 #[.int .u64 (wd L 0 : Nat), .int .u64 (wd L 1 : Nat), .int .u64 (wd L 2 : Nat), .int .u64 (wd L 3 : Nat)] := Flf.out.alloc _
  have NB : Below w.heap.size w (v5.alloc (.cells #[.int .u64 (wd H 0 : Nat), .int .u64 (wd H 1 : Nat), .int .u64 (wd H 2 : Nat), .int .u64 (wd H 3 : Nat)] 24)) := gr_alloc BW.out _
  clear BW Fa Flo Fhi Flf
  generalize (v5.alloc (.cells #[.int .u64 (wd H 0 : Nat), .int .u64 (wd H 1 : Nat), .int .u64 (wd H 2 : Nat), .int .u64 (wd H 3 : Nat)] 24)) = W6 at *
  generalize v5.heap.size = grt at *
  have Fa := Lib.hid Na
  have Flo := Lib.hid Nlo
  have Fhi := Lib.hid Nhi
  have Flf := Lib.hid Nlf
  have Frt := Lib.hid Nrt
  have BW := Lib.hid NB
  clear NB Na Nlo Nhi Nlf Nrt
  refine (alive_any _).mono ?_
  rintro e v7 ⟨rfl, z7⟩
  have Na := Lib.hid (Fa.out.on z7)
  have Nlo := Lib.hid (Flo.out.on z7)
  have Nhi := Lib.hid (Fhi.out.on z7)
  have Nlf := Lib.hid (Flf.out.on z7)
  have Nrt := Lib.hid (Frt.out.on z7)
  have NB := Lib.hid (bel_tr BW.out z7)
  clear BW z7 Fa Flo Fhi Flf Frt
  have Fa := Na
  have Flo := Nlo
  have Fhi := Nhi
  have Flf := Nlf
  have Frt := Nrt
  have BW := NB
  clear NB Na Nlo Nhi Nlf Nrt
  have Llf := Flf.out.lt
  have clf0 : v7.cell? ⟨glf, 0, none⟩ = some (.int .u64 (wd L 0 : Nat)) := Flf.out.cell 0
  have clf1 : v7.cell? ⟨glf, 1, none⟩ = some (.int .u64 (wd L 1 : Nat)) := Flf.out.cell 1
  have clf2 : v7.cell? ⟨glf, 2, none⟩ = some (.int .u64 (wd L 2 : Nat)) := Flf.out.cell 2
  have clf3 : v7.cell? ⟨glf, 3, none⟩ = some (.int .u64 (wd L 3 : Nat)) := Flf.out.cell 3
  have Llo := Flo.out.lt
  have clo0 : v7.cell? ⟨glo, 0, none⟩ = some (.int .u64 (wd L 0 : Nat)) := Flo.out.cell 0
  have clo1 : v7.cell? ⟨glo, 1, none⟩ = some (.int .u64 (wd L 1 : Nat)) := Flo.out.cell 1
  have clo2 : v7.cell? ⟨glo, 2, none⟩ = some (.int .u64 (wd L 2 : Nat)) := Flo.out.cell 2
  have clo3 : v7.cell? ⟨glo, 3, none⟩ = some (.int .u64 (wd L 3 : Nat)) := Flo.out.cell 3
  have Lrt := Frt.out.lt
  have crt0 : v7.cell? ⟨grt, 0, none⟩ = some (.int .u64 (wd H 0 : Nat)) := Frt.out.cell 0
  have crt1 : v7.cell? ⟨grt, 1, none⟩ = some (.int .u64 (wd H 1 : Nat)) := Frt.out.cell 1
  have crt2 : v7.cell? ⟨grt, 2, none⟩ = some (.int .u64 (wd H 2 : Nat)) := Frt.out.cell 2
  have crt3 : v7.cell? ⟨grt, 3, none⟩ = some (.int .u64 (wd H 3 : Nat)) := Frt.out.cell 3
  have Lhi := Fhi.out.lt
  have chi0 : v7.cell? ⟨ghi, 0, none⟩ = some (.int .u64 (wd H 0 : Nat)) := Fhi.out.cell 0
  have chi1 : v7.cell? ⟨ghi, 1, none⟩ = some (.int .u64 (wd H 1 : Nat)) := Fhi.out.cell 1
  have chi2 : v7.cell? ⟨ghi, 2, none⟩ = some (.int .u64 (wd H 2 : Nat)) := Fhi.out.cell 2
  have chi3 : v7.cell? ⟨ghi, 3, none⟩ = some (.int .u64 (wd H 3 : Nat)) := Fhi.out.cell 3
  go_wp2_with fail
  clear Llf clf0 clf1 clf2 clf3 Llo clo0 clo1 clo2 clo3 Lrt crt0 crt1 crt2 crt3 Lhi chi0 chi1 chi2 chi3
  refine (A4.out _).mono ?_
  rintro e v8 ⟨rfl, z8⟩
  have Na := Lib.hid (Fa.out.on z8)
  have Nlo := Lib.hid (Flo.out.on z8)
  have Nhi := Lib.hid (Fhi.out.on z8)
  have Nlf := Lib.hid (Flf.out.on z8)
  have Nrt := Lib.hid (Frt.out.on z8)
  have NB := Lib.hid (bel_tr BW.out z8)
  clear BW z8 Fa Flo Fhi Flf Frt
  have Fa := Na
  have Flo := Nlo
  have Fhi := Nhi
  have Flf := Nlf
  have Frt := Nrt
  have BW := NB
  clear NB Na Nlo Nhi Nlf Nrt
  go_wp2_with fail
  have Nbk : At (v8.alloc (.cells #[.int .u64 (wd bk 0 : Nat), .int .u64 (wd bk 1 : Nat), .int .u64 (wd bk 2 : Nat), .int .u64 (wd bk 3 : Nat)] 24)) (v8.heap.size) 24 #[.int .u64 (wd bk 0 : Nat), .int .u64 (wd bk 1 : Nat), .int .u64 (wd bk 2 : Nat), .int .u64 (wd bk 3 : Nat)] := At.at_ _ _ _ _ (by simp)
  have Na : At (v8.alloc (.cells #[.int .u64 (wd bk 0 : Nat), .int .u64 (wd bk 1 : Nat), .int .u64 (wd bk 2 : Nat), .int .u64 (wd bk 3 : Nat)] 24)) ga 24 #[.int .u64 (wd X 0 : Nat), .int .u64 (wd X 1 : Nat), .int .u64 (wd X 2 : Nat), .int .u64 (wd X 3 : Nat)] := Fa.out.alloc _
  have Nlo : At (v8.alloc (.cells #[.int .u64 (wd bk 0 : Nat), .int .u64 (wd bk 1 : Nat), .int .u64 (wd bk 2 : Nat), .int .u64 (wd bk 3 : Nat)] 24)) glo 24 #[.int .u64 (wd L 0 : Nat), .int .u64 (wd L 1 : Nat), .int .u64 (wd L 2 : Nat), .int .u64 (wd L 3 : Nat)] := Flo.out.alloc _
  have Nhi : At (v8.alloc (.cells #[.int .u64 (wd bk 0 : Nat), .int .u64 (wd bk 1 : Nat), .int .u64 (wd bk 2 : Nat), .int .u64 (wd bk 3 : Nat)] 24)) ghi 24 #[.int .u64 (wd H 0 : Nat), .int .u64 (wd H 1 : Nat), .int .u64 (wd H 2 : Nat), .int .u64 (wd H 3 : Nat)] := Fhi.out.alloc _
  have Nlf : At (v8.alloc (.cells #[.int .u64 (wd bk 0 : Nat), .int .u64 (wd bk 1 : Nat), .int .u64 (wd bk 2 : Nat), .int .u64 (wd bk 3 : Nat)] 24)) glf 24 #[.int .u64 (wd L 0 : Nat), .int .u64 (wd L 1 : Nat), .int .u64 (wd L 2 : Nat), .int .u64 (wd L 3 : Nat)] := Flf.out.alloc _
  have Nrt : At (v8.alloc (.cells #[.int .u64 (wd bk 0 : Nat), .int .u64 (wd bk 1 : Nat), .int .u64 (wd bk 2 : Nat), .int .u64 (wd bk 3 : Nat)] 24)) grt 24 #[.int .u64 (wd H 0 : Nat), .int .u64 (wd H 1 : Nat), .int .u64 (wd H 2 : Nat), .int .u64 (wd H 3 : Nat)] := Frt.out.alloc _
  have NB : Below w.heap.size w (v8.alloc (.cells #[.int .u64 (wd bk 0 : Nat), .int .u64 (wd bk 1 : Nat), .int .u64 (wd bk 2 : Nat), .int .u64 (wd bk 3 : Nat)] 24)) := gr_alloc BW.out _
  clear BW Fa Flo Fhi Flf Frt
  generalize (v8.alloc (.cells #[.int .u64 (wd bk 0 : Nat), .int .u64 (wd bk 1 : Nat), .int .u64 (wd bk 2 : Nat), .int .u64 (wd bk 3 : Nat)] 24)) = W9 at *
  generalize v8.heap.size = gbk at *
  have Fa := Lib.hid Na
  have Flo := Lib.hid Nlo
  have Fhi := Lib.hid Nhi
  have Flf := Lib.hid Nlf
  have Frt := Lib.hid Nrt
  have Fbk := Lib.hid Nbk
  have BW := Lib.hid NB
  clear NB Na Nlo Nhi Nlf Nrt Nbk
  clear Flo
  clear Fhi
  clear Flf
  clear Frt
  go_loopw [12] (fun s wr => ∃ i : Nat, i ≤ 256 ∧ s = .int .i64 i ∧ Hid (At wr ga 24 #[.int .u64 (wd X 0 : Nat), .int .u64 (wd X 1 : Nat), .int .u64 (wd X 2 : Nat), .int .u64 (wd X 3 : Nat)]) ∧ Hid (At wr gbk 24 #[.int .u64 (wd bk 0 : Nat), .int .u64 (wd bk 1 : Nat), .int .u64 (wd bk 2 : Nat), .int .u64 (wd bk 3 : Nat)]) ∧ Hid (Below w.heap.size w wr)) (fun s _ => 256 - (intOf s).toNat)
  case atStart => exact ⟨0, by omega, rfl, Fa, Fbk, BW⟩
  case round =>
    clear Fa Fbk BW
    obtain ⟨i, hi, rfl, Fa, Fbk, BW⟩ := hrel
    by_cases hlt : i < 256
    · have kb := KB.out i hlt
      have kr := KR.out i hlt
      have s1 : IntKind.i64.wrap ((i : Int) + (n : Int)) = (i : Int) + n := by rw [IntKind.wrap_i64]; omega
      have AB1 := Lib.hid (AB.out (i : Int)); have AX1 := Lib.hid (AX.out (i : Int)); have AR1 := Lib.hid (AR.out (i : Int)); have AX2 := Lib.hid (AX.out ((i : Int) + n))
      rw [kb] at AB1; rw [kr] at AR1
      clear kb kr
      generalize bt X ((i : Int) + n) = z2 at *
      by_cases hc : i < 256 - n
      · rw [if_pos hc] at AB1
        generalize bt X (i : Int) = z1 at *
        have h9 : (i : Int) < 256 - (n : Int) := by omega
        have La := Fa.out.lt
        have ca0 : wr.cell? ⟨ga, 0, none⟩ = some (.int .u64 (wd X 0 : Nat)) := Fa.out.cell 0
        have ca1 : wr.cell? ⟨ga, 1, none⟩ = some (.int .u64 (wd X 1 : Nat)) := Fa.out.cell 1
        have ca2 : wr.cell? ⟨ga, 2, none⟩ = some (.int .u64 (wd X 2 : Nat)) := Fa.out.cell 2
        have ca3 : wr.cell? ⟨ga, 3, none⟩ = some (.int .u64 (wd X 3 : Nat)) := Fa.out.cell 3
        go_wp2_with fail
        clear La ca0 ca1 ca2 ca3
        refine (AX1.out _).mono ?_
        rintro e v10 ⟨rfl, z10⟩
        have Na := Lib.hid (Fa.out.on z10)
        have Nbk := Lib.hid (Fbk.out.on z10)
        have NB := Lib.hid (bel_tr BW.out z10)
        clear BW z10 Fa Fbk
        have Fa := Na
        have Fbk := Nbk
        have BW := NB
        clear NB Na Nbk
        go_wp2_with fail
        have HK : ∀ w', Below v10.heap.size v10 w' → (w'.cell? ⟨gbk, 0, none⟩ = some (.int .u64 (wd bk 0 : Nat)) ∧ w'.cell? ⟨gbk, 1, none⟩ = some (.int .u64 (wd bk 1 : Nat)) ∧ w'.cell? ⟨gbk, 2, none⟩ = some (.int .u64 (wd bk 2 : Nat)) ∧ w'.cell? ⟨gbk, 3, none⟩ = some (.int .u64 (wd bk 3 : Nat)) ∧ w'.cell? ⟨ga, 0, none⟩ = some (.int .u64 (wd X 0 : Nat)) ∧ w'.cell? ⟨ga, 1, none⟩ = some (.int .u64 (wd X 1 : Nat)) ∧ w'.cell? ⟨ga, 2, none⟩ = some (.int .u64 (wd X 2 : Nat)) ∧ w'.cell? ⟨ga, 3, none⟩ = some (.int .u64 (wd X 3 : Nat)) ∧ Below v10.heap.size v10 w') := fun w' h => ⟨cell_on h (Fbk.out.cell 0), cell_on h (Fbk.out.cell 1), cell_on h (Fbk.out.cell 2), cell_on h (Fbk.out.cell 3), cell_on h (Fa.out.cell 0), cell_on h (Fa.out.cell 1), cell_on h (Fa.out.cell 2), cell_on h (Fa.out.cell 3), h⟩
        try simp only [List.append_eq, List.cons_append, List.nil_append]
        have B11_0 : Below v10.heap.size v10 v10.drew := (Below.refl _ _).drew
        refine wp_region_noPanic ?_
        refine wp_region_held_drew (S := fun w' => w'.cell? ⟨gbk, 0, none⟩ = some (.int .u64 (wd bk 0 : Nat)) ∧ w'.cell? ⟨gbk, 1, none⟩ = some (.int .u64 (wd bk 1 : Nat)) ∧ w'.cell? ⟨gbk, 2, none⟩ = some (.int .u64 (wd bk 2 : Nat)) ∧ w'.cell? ⟨gbk, 3, none⟩ = some (.int .u64 (wd bk 3 : Nat)) ∧ w'.cell? ⟨ga, 0, none⟩ = some (.int .u64 (wd X 0 : Nat)) ∧ w'.cell? ⟨ga, 1, none⟩ = some (.int .u64 (wd X 1 : Nat)) ∧ w'.cell? ⟨ga, 2, none⟩ = some (.int .u64 (wd X 2 : Nat)) ∧ w'.cell? ⟨ga, 3, none⟩ = some (.int .u64 (wd X 3 : Nat)) ∧ Below v10.heap.size v10 w') (by kernel_rfl) (HK _ B11_0) (fun hHeld => ?_)
        refine wpAnyH_take (i := 0) (oi := ?_) (v := ?_) ?_ (by kernel_rfl) (by kernel_rfl) (by kernel_rfl) (fun _ _ _ h => h) ?_ (by assumption) ?_
        rotate_left 2
        · simp only [List.getElem?_toArray, List.getElem?_cons_succ, List.getElem?_cons_zero]; exact rfl
        · refine Or.inl ⟨by rfl, ?_⟩; intro w hSw; (try dsimp only at hSw); go_simp; try with_reducible rfl
        try simp only [Act.put, List.setIfInBounds_toArray, List.set_cons_zero, List.set_cons_succ]
        refine wpAnyH_take (i := 1) (oi := ?_) (v := ?_) ?_ (by kernel_rfl) (by kernel_rfl) (by kernel_rfl) (fun _ _ _ h => h) ?_ (by assumption) ?_
        rotate_left 2
        · simp only [List.getElem?_toArray, List.getElem?_cons_succ, List.getElem?_cons_zero]; exact rfl
        · refine Or.inl ⟨by rfl, ?_⟩; intro w hSw; (try dsimp only at hSw); go_simp; try with_reducible rfl
        try simp only [Act.put, List.setIfInBounds_toArray, List.set_cons_zero, List.set_cons_succ]
        refine wpAnyH_take (i := 3) (oi := ?_) (v := ?_) ?_ (by kernel_rfl) (by kernel_rfl) (by kernel_rfl) (fun _ _ _ h => h) ?_ (by assumption) ?_
        rotate_left 2
        · simp only [List.getElem?_toArray, List.getElem?_cons_succ, List.getElem?_cons_zero]; exact rfl
        · refine Or.inl ⟨by rfl, ?_⟩; intro w hSw; (try dsimp only at hSw); go_simp; try with_reducible rfl
        try simp only [Act.put, List.setIfInBounds_toArray, List.set_cons_zero, List.set_cons_succ]
        refine wpAnyH_ready (rs := [2]) (by kernel_rfl) (by simp) ?_
        refine AllReadyH.cons (o := ?_) ?_ ?_ AllReadyH.nil
        rotate_left
        · simp only [List.getElem?_toArray, List.getElem?_cons_succ, List.getElem?_cons_zero]; exact rfl
        intro K hK
        go_simp
        refine (AB1.out _).mono ?_
        rintro e u11_1 ⟨rfl, y1⟩
        have B11_1 : Below v10.heap.size v10 u11_1 := bel_tr B11_0 y1
        clear y1 B11_0 hHeld
        refine hK.out _ _ (HK _ B11_1) (fun hHeld => ?_)
        clear hK K
        try simp only [Act.put, List.setIfInBounds_toArray, List.set_cons_zero, List.set_cons_succ]
        refine wpAnyH_take (i := 4) (oi := ?_) (v := ?_) ?_ (by kernel_rfl) (by kernel_rfl) (by kernel_rfl) (fun _ _ _ h => h) ?_ (by assumption) ?_
        rotate_left 2
        · simp only [List.getElem?_toArray, List.getElem?_cons_succ, List.getElem?_cons_zero]; exact rfl
        · refine Or.inl ⟨by rfl, ?_⟩; intro w hSw; (try dsimp only at hSw); go_simp; try with_reducible rfl
        try simp only [Act.put, List.setIfInBounds_toArray, List.set_cons_zero, List.set_cons_succ]
        refine wpAnyH_take (i := 5) (oi := ?_) (v := ?_) ?_ (by kernel_rfl) (by kernel_rfl) (by kernel_rfl) (fun _ _ _ h => h) ?_ (by assumption) ?_
        rotate_left 2
        · simp only [List.getElem?_toArray, List.getElem?_cons_succ, List.getElem?_cons_zero]; exact rfl
        · refine Or.inl ⟨by rfl, ?_⟩; intro w hSw; (try dsimp only at hSw); go_simp; try with_reducible rfl
        try simp only [Act.put, List.setIfInBounds_toArray, List.set_cons_zero, List.set_cons_succ]
        refine wpAnyH_take (i := 6) (oi := ?_) (v := ?_) ?_ (by kernel_rfl) (by kernel_rfl) (by kernel_rfl) (fun _ _ _ h => h) ?_ (by assumption) ?_
        rotate_left 2
        · simp only [List.getElem?_toArray, List.getElem?_cons_succ, List.getElem?_cons_zero]; exact rfl
        · refine Or.inl ⟨by rfl, ?_⟩; intro w hSw; (try dsimp only at hSw); go_simp; try with_reducible rfl
        try simp only [Act.put, List.setIfInBounds_toArray, List.set_cons_zero, List.set_cons_succ]
        refine wpAnyH_take (i := 7) (oi := ?_) (v := ?_) ?_ (by kernel_rfl) (by kernel_rfl) (by kernel_rfl) (fun _ _ _ h => h) ?_ (by assumption) ?_
        rotate_left 2
        · simp only [List.getElem?_toArray, List.getElem?_cons_succ, List.getElem?_cons_zero]; exact rfl
        · refine Or.inl ⟨by rfl, ?_⟩; intro w hSw; (try dsimp only at hSw); go_simp; try with_reducible rfl
        try simp only [Act.put, List.setIfInBounds_toArray, List.set_cons_zero, List.set_cons_succ]
        refine wpAnyH_take (i := 8) (oi := ?_) (v := ?_) ?_ (by kernel_rfl) (by kernel_rfl) (by kernel_rfl) (fun _ _ _ h => h) ?_ (by assumption) ?_
        rotate_left 2
        · simp only [List.getElem?_toArray, List.getElem?_cons_succ, List.getElem?_cons_zero]; exact rfl
        · refine Or.inl ⟨by rfl, ?_⟩; intro w hSw; (try dsimp only at hSw); go_simp; try with_reducible rfl
        try simp only [Act.put, List.setIfInBounds_toArray, List.set_cons_zero, List.set_cons_succ]
        refine wpAnyH_take (i := 10) (oi := ?_) (v := ?_) ?_ (by kernel_rfl) (by kernel_rfl) (by kernel_rfl) (fun _ _ _ h => h) ?_ (by assumption) ?_
        rotate_left 2
        · simp only [List.getElem?_toArray, List.getElem?_cons_succ, List.getElem?_cons_zero]; exact rfl
        · refine Or.inl ⟨by rfl, ?_⟩; intro w hSw; (try dsimp only at hSw); go_simp; try with_reducible rfl
        try simp only [Act.put, List.setIfInBounds_toArray, List.set_cons_zero, List.set_cons_succ]
        refine wpAnyH_take (i := 12) (oi := ?_) (v := ?_) ?_ (by kernel_rfl) (by kernel_rfl) (by kernel_rfl) (fun _ _ _ h => h) ?_ (by assumption) ?_
        rotate_left 2
        · simp only [List.getElem?_toArray, List.getElem?_cons_succ, List.getElem?_cons_zero]; exact rfl
        · refine Or.inl ⟨by rfl, ?_⟩; intro w hSw; (try dsimp only at hSw); go_simp; try with_reducible rfl
        try simp only [Act.put, List.setIfInBounds_toArray, List.set_cons_zero, List.set_cons_succ]
        refine wpAnyH_take (i := 13) (oi := ?_) (v := ?_) ?_ (by kernel_rfl) (by kernel_rfl) (by kernel_rfl) (fun _ _ _ h => h) ?_ (by assumption) ?_
        rotate_left 2
        · simp only [List.getElem?_toArray, List.getElem?_cons_succ, List.getElem?_cons_zero]; exact rfl
        · refine Or.inl ⟨by rfl, ?_⟩; intro w hSw; (try dsimp only at hSw); go_simp; try with_reducible rfl
        try simp only [Act.put, List.setIfInBounds_toArray, List.set_cons_zero, List.set_cons_succ]
        refine wpAnyH_take (i := 14) (oi := ?_) (v := ?_) ?_ (by kernel_rfl) (by kernel_rfl) (by kernel_rfl) (fun _ _ _ h => h) ?_ (by assumption) ?_
        rotate_left 2
        · simp only [List.getElem?_toArray, List.getElem?_cons_succ, List.getElem?_cons_zero]; exact rfl
        · refine Or.inl ⟨by rfl, ?_⟩; intro w hSw; (try dsimp only at hSw); go_simp; try with_reducible rfl
        try simp only [Act.put, List.setIfInBounds_toArray, List.set_cons_zero, List.set_cons_succ]
        refine wpAnyH_take (i := 15) (oi := ?_) (v := ?_) ?_ (by kernel_rfl) (by kernel_rfl) (by kernel_rfl) (fun _ _ _ h => h) ?_ (by assumption) ?_
        rotate_left 2
        · simp only [List.getElem?_toArray, List.getElem?_cons_succ, List.getElem?_cons_zero]; exact rfl
        · refine Or.inl ⟨by rfl, ?_⟩; intro w hSw; (try dsimp only at hSw); go_simp; try with_reducible rfl
        try simp only [Act.put, List.setIfInBounds_toArray, List.set_cons_zero, List.set_cons_succ]
        refine wpAnyH_ready (rs := [9]) (by kernel_rfl) (by simp) ?_
        refine AllReadyH.cons (o := ?_) ?_ ?_ AllReadyH.nil
        rotate_left
        · simp only [List.getElem?_toArray, List.getElem?_cons_succ, List.getElem?_cons_zero]; exact rfl
        intro K hK
        go_simp
        refine (A5.out _).mono ?_
        rintro e u11_2 ⟨rfl, y2⟩
        have B11_2 : Below v10.heap.size v10 u11_2 := bel_tr B11_1 y2
        clear y2 B11_1 hHeld
        refine hK.out _ _ (HK _ B11_2) (fun hHeld => ?_)
        clear hK K
        try simp only [Act.put, List.setIfInBounds_toArray, List.set_cons_zero, List.set_cons_succ]
        refine wpAnyH_ready (rs := [11]) (by kernel_rfl) (by simp) ?_
        refine AllReadyH.cons (o := ?_) ?_ ?_ AllReadyH.nil
        rotate_left
        · simp only [List.getElem?_toArray, List.getElem?_cons_succ, List.getElem?_cons_zero]; exact rfl
        intro K hK
        go_simp
        refine (AR1.out _).mono ?_
        rintro e u11_3 ⟨rfl, y3⟩
        have B11_3 : Below v10.heap.size v10 u11_3 := bel_tr B11_2 y3
        clear y3 B11_2 hHeld
        refine hK.out _ _ (HK _ B11_3) (fun hHeld => ?_)
        clear hK K
        try simp only [Act.put, List.setIfInBounds_toArray, List.set_cons_zero, List.set_cons_succ]
        refine wpAnyH_ready (rs := [16]) (by kernel_rfl) (by simp) ?_
        refine AllReadyH.cons (o := ?_) ?_ ?_ AllReadyH.nil
        rotate_left
        · simp only [List.getElem?_toArray, List.getElem?_cons_succ, List.getElem?_cons_zero]; exact rfl
        intro K hK
        go_simp
        refine (AX2.out _).mono ?_
        rintro e u11_4 ⟨rfl, y4⟩
        have B11_4 : Below v10.heap.size v10 u11_4 := bel_tr B11_3 y4
        clear y4 B11_3 hHeld
        refine hK.out _ _ (HK _ B11_4) (fun hHeld => ?_)
        clear hK K
        try simp only [Act.put, List.setIfInBounds_toArray, List.set_cons_zero, List.set_cons_succ]
        refine wpAnyH_take (i := 17) (oi := ?_) (v := ?_) ?_ (by kernel_rfl) (by kernel_rfl) (by kernel_rfl) (fun _ _ _ h => h) ?_ (by assumption) ?_
        rotate_left 2
        · simp only [List.getElem?_toArray, List.getElem?_cons_succ, List.getElem?_cons_zero]; exact rfl
        · refine Or.inl ⟨by rfl, ?_⟩; intro w hSw; (try dsimp only at hSw); go_simp; try with_reducible rfl
        try simp only [Act.put, List.setIfInBounds_toArray, List.set_cons_zero, List.set_cons_succ]
        refine wpAnyH_take (i := 18) (oi := ?_) (v := ?_) ?_ (by kernel_rfl) (by kernel_rfl) (by kernel_rfl) (fun _ _ _ h => h) ?_ (by assumption) ?_
        rotate_left 2
        · simp only [List.getElem?_toArray, List.getElem?_cons_succ, List.getElem?_cons_zero]; exact rfl
        · refine Or.inl ⟨by rfl, ?_⟩; intro w hSw; (try dsimp only at hSw); go_simp; try with_reducible rfl
        try simp only [Act.put, List.setIfInBounds_toArray, List.set_cons_zero, List.set_cons_succ]
        refine wpAnyH_done (by kernel_rfl) ?_ _
        refine NoPanic.normal ?_
        clear HK
        have Na := Fa.out.on B11_4
        have Nbk := Fbk.out.on B11_4
        have NB := bel_tr BW.out B11_4
        clear BW hHeld B11_4 Fa Fbk
        have Fa := Lib.hid Na
        have Fbk := Lib.hid Nbk
        have BW := Lib.hid NB
        clear NB Na Nbk
        go_wp2
        go_roundw
        case rel => exact ⟨i + 1, by omega, by go_num, Fa, Fbk, BW⟩
        case measure => simp [intOf]; omega
      · rw [if_neg hc] at AB1
        generalize bt X (i : Int) = z1 at *
        have h9 : 256 - (n : Int) ≤ (i : Int) := by omega
        have La := Fa.out.lt
        have ca0 : wr.cell? ⟨ga, 0, none⟩ = some (.int .u64 (wd X 0 : Nat)) := Fa.out.cell 0
        have ca1 : wr.cell? ⟨ga, 1, none⟩ = some (.int .u64 (wd X 1 : Nat)) := Fa.out.cell 1
        have ca2 : wr.cell? ⟨ga, 2, none⟩ = some (.int .u64 (wd X 2 : Nat)) := Fa.out.cell 2
        have ca3 : wr.cell? ⟨ga, 3, none⟩ = some (.int .u64 (wd X 3 : Nat)) := Fa.out.cell 3
        go_wp2_with fail
        clear La ca0 ca1 ca2 ca3
        refine (AX1.out _).mono ?_
        rintro e v10 ⟨rfl, z10⟩
        have Na := Lib.hid (Fa.out.on z10)
        have Nbk := Lib.hid (Fbk.out.on z10)
        have NB := Lib.hid (bel_tr BW.out z10)
        clear BW z10 Fa Fbk
        have Fa := Na
        have Fbk := Nbk
        have BW := NB
        clear NB Na Nbk
        go_wp2_with fail
        have HK : ∀ w', Below v10.heap.size v10 w' → (w'.cell? ⟨gbk, 0, none⟩ = some (.int .u64 (wd bk 0 : Nat)) ∧ w'.cell? ⟨gbk, 1, none⟩ = some (.int .u64 (wd bk 1 : Nat)) ∧ w'.cell? ⟨gbk, 2, none⟩ = some (.int .u64 (wd bk 2 : Nat)) ∧ w'.cell? ⟨gbk, 3, none⟩ = some (.int .u64 (wd bk 3 : Nat)) ∧ w'.cell? ⟨ga, 0, none⟩ = some (.int .u64 (wd X 0 : Nat)) ∧ w'.cell? ⟨ga, 1, none⟩ = some (.int .u64 (wd X 1 : Nat)) ∧ w'.cell? ⟨ga, 2, none⟩ = some (.int .u64 (wd X 2 : Nat)) ∧ w'.cell? ⟨ga, 3, none⟩ = some (.int .u64 (wd X 3 : Nat)) ∧ Below v10.heap.size v10 w') := fun w' h => ⟨cell_on h (Fbk.out.cell 0), cell_on h (Fbk.out.cell 1), cell_on h (Fbk.out.cell 2), cell_on h (Fbk.out.cell 3), cell_on h (Fa.out.cell 0), cell_on h (Fa.out.cell 1), cell_on h (Fa.out.cell 2), cell_on h (Fa.out.cell 3), h⟩
        try simp only [List.append_eq, List.cons_append, List.nil_append]
        have B11_0 : Below v10.heap.size v10 v10.drew := (Below.refl _ _).drew
        refine wp_region_noPanic ?_
        refine wp_region_held_drew (S := fun w' => w'.cell? ⟨gbk, 0, none⟩ = some (.int .u64 (wd bk 0 : Nat)) ∧ w'.cell? ⟨gbk, 1, none⟩ = some (.int .u64 (wd bk 1 : Nat)) ∧ w'.cell? ⟨gbk, 2, none⟩ = some (.int .u64 (wd bk 2 : Nat)) ∧ w'.cell? ⟨gbk, 3, none⟩ = some (.int .u64 (wd bk 3 : Nat)) ∧ w'.cell? ⟨ga, 0, none⟩ = some (.int .u64 (wd X 0 : Nat)) ∧ w'.cell? ⟨ga, 1, none⟩ = some (.int .u64 (wd X 1 : Nat)) ∧ w'.cell? ⟨ga, 2, none⟩ = some (.int .u64 (wd X 2 : Nat)) ∧ w'.cell? ⟨ga, 3, none⟩ = some (.int .u64 (wd X 3 : Nat)) ∧ Below v10.heap.size v10 w') (by kernel_rfl) (HK _ B11_0) (fun hHeld => ?_)
        refine wpAnyH_take (i := 0) (oi := ?_) (v := ?_) ?_ (by kernel_rfl) (by kernel_rfl) (by kernel_rfl) (fun _ _ _ h => h) ?_ (by assumption) ?_
        rotate_left 2
        · simp only [List.getElem?_toArray, List.getElem?_cons_succ, List.getElem?_cons_zero]; exact rfl
        · refine Or.inl ⟨by rfl, ?_⟩; intro w hSw; (try dsimp only at hSw); go_simp; try with_reducible rfl
        try simp only [Act.put, List.setIfInBounds_toArray, List.set_cons_zero, List.set_cons_succ]
        refine wpAnyH_take (i := 1) (oi := ?_) (v := ?_) ?_ (by kernel_rfl) (by kernel_rfl) (by kernel_rfl) (fun _ _ _ h => h) ?_ (by assumption) ?_
        rotate_left 2
        · simp only [List.getElem?_toArray, List.getElem?_cons_succ, List.getElem?_cons_zero]; exact rfl
        · refine Or.inl ⟨by rfl, ?_⟩; intro w hSw; (try dsimp only at hSw); go_simp; try with_reducible rfl
        try simp only [Act.put, List.setIfInBounds_toArray, List.set_cons_zero, List.set_cons_succ]
        refine wpAnyH_take (i := 3) (oi := ?_) (v := ?_) ?_ (by kernel_rfl) (by kernel_rfl) (by kernel_rfl) (fun _ _ _ h => h) ?_ (by assumption) ?_
        rotate_left 2
        · simp only [List.getElem?_toArray, List.getElem?_cons_succ, List.getElem?_cons_zero]; exact rfl
        · refine Or.inl ⟨by rfl, ?_⟩; intro w hSw; (try dsimp only at hSw); go_simp; try with_reducible rfl
        try simp only [Act.put, List.setIfInBounds_toArray, List.set_cons_zero, List.set_cons_succ]
        refine wpAnyH_ready (rs := [2]) (by kernel_rfl) (by simp) ?_
        refine AllReadyH.cons (o := ?_) ?_ ?_ AllReadyH.nil
        rotate_left
        · simp only [List.getElem?_toArray, List.getElem?_cons_succ, List.getElem?_cons_zero]; exact rfl
        intro K hK
        go_simp
        refine (AB1.out _).mono ?_
        rintro e u11_1 ⟨rfl, y1⟩
        have B11_1 : Below v10.heap.size v10 u11_1 := bel_tr B11_0 y1
        clear y1 B11_0 hHeld
        refine hK.out _ _ (HK _ B11_1) (fun hHeld => ?_)
        clear hK K
        try simp only [Act.put, List.setIfInBounds_toArray, List.set_cons_zero, List.set_cons_succ]
        refine wpAnyH_take (i := 4) (oi := ?_) (v := ?_) ?_ (by kernel_rfl) (by kernel_rfl) (by kernel_rfl) (fun _ _ _ h => h) ?_ (by assumption) ?_
        rotate_left 2
        · simp only [List.getElem?_toArray, List.getElem?_cons_succ, List.getElem?_cons_zero]; exact rfl
        · refine Or.inl ⟨by rfl, ?_⟩; intro w hSw; (try dsimp only at hSw); go_simp; try with_reducible rfl
        try simp only [Act.put, List.setIfInBounds_toArray, List.set_cons_zero, List.set_cons_succ]
        refine wpAnyH_take (i := 5) (oi := ?_) (v := ?_) ?_ (by kernel_rfl) (by kernel_rfl) (by kernel_rfl) (fun _ _ _ h => h) ?_ (by assumption) ?_
        rotate_left 2
        · simp only [List.getElem?_toArray, List.getElem?_cons_succ, List.getElem?_cons_zero]; exact rfl
        · refine Or.inl ⟨by rfl, ?_⟩; intro w hSw; (try dsimp only at hSw); go_simp; try with_reducible rfl
        try simp only [Act.put, List.setIfInBounds_toArray, List.set_cons_zero, List.set_cons_succ]
        refine wpAnyH_take (i := 6) (oi := ?_) (v := ?_) ?_ (by kernel_rfl) (by kernel_rfl) (by kernel_rfl) (fun _ _ _ h => h) ?_ (by assumption) ?_
        rotate_left 2
        · simp only [List.getElem?_toArray, List.getElem?_cons_succ, List.getElem?_cons_zero]; exact rfl
        · refine Or.inl ⟨by rfl, ?_⟩; intro w hSw; (try dsimp only at hSw); go_simp; try with_reducible rfl
        try simp only [Act.put, List.setIfInBounds_toArray, List.set_cons_zero, List.set_cons_succ]
        refine wpAnyH_take (i := 7) (oi := ?_) (v := ?_) ?_ (by kernel_rfl) (by kernel_rfl) (by kernel_rfl) (fun _ _ _ h => h) ?_ (by assumption) ?_
        rotate_left 2
        · simp only [List.getElem?_toArray, List.getElem?_cons_succ, List.getElem?_cons_zero]; exact rfl
        · refine Or.inl ⟨by rfl, ?_⟩; intro w hSw; (try dsimp only at hSw); go_simp; try with_reducible rfl
        try simp only [Act.put, List.setIfInBounds_toArray, List.set_cons_zero, List.set_cons_succ]
        refine wpAnyH_take (i := 8) (oi := ?_) (v := ?_) ?_ (by kernel_rfl) (by kernel_rfl) (by kernel_rfl) (fun _ _ _ h => h) ?_ (by assumption) ?_
        rotate_left 2
        · simp only [List.getElem?_toArray, List.getElem?_cons_succ, List.getElem?_cons_zero]; exact rfl
        · refine Or.inl ⟨by rfl, ?_⟩; intro w hSw; (try dsimp only at hSw); go_simp; try with_reducible rfl
        try simp only [Act.put, List.setIfInBounds_toArray, List.set_cons_zero, List.set_cons_succ]
        refine wpAnyH_take (i := 10) (oi := ?_) (v := ?_) ?_ (by kernel_rfl) (by kernel_rfl) (by kernel_rfl) (fun _ _ _ h => h) ?_ (by assumption) ?_
        rotate_left 2
        · simp only [List.getElem?_toArray, List.getElem?_cons_succ, List.getElem?_cons_zero]; exact rfl
        · refine Or.inl ⟨by rfl, ?_⟩; intro w hSw; (try dsimp only at hSw); go_simp; try with_reducible rfl
        try simp only [Act.put, List.setIfInBounds_toArray, List.set_cons_zero, List.set_cons_succ]
        refine wpAnyH_take (i := 12) (oi := ?_) (v := ?_) ?_ (by kernel_rfl) (by kernel_rfl) (by kernel_rfl) (fun _ _ _ h => h) ?_ (by assumption) ?_
        rotate_left 2
        · simp only [List.getElem?_toArray, List.getElem?_cons_succ, List.getElem?_cons_zero]; exact rfl
        · refine Or.inl ⟨by rfl, ?_⟩; intro w hSw; (try dsimp only at hSw); go_simp; try with_reducible rfl
        try simp only [Act.put, List.setIfInBounds_toArray, List.set_cons_zero, List.set_cons_succ]
        refine wpAnyH_take (i := 13) (oi := ?_) (v := ?_) ?_ (by kernel_rfl) (by kernel_rfl) (by kernel_rfl) (fun _ _ _ h => h) ?_ (by assumption) ?_
        rotate_left 2
        · simp only [List.getElem?_toArray, List.getElem?_cons_succ, List.getElem?_cons_zero]; exact rfl
        · refine Or.inl ⟨by rfl, ?_⟩; intro w hSw; (try dsimp only at hSw); go_simp; try with_reducible rfl
        try simp only [Act.put, List.setIfInBounds_toArray, List.set_cons_zero, List.set_cons_succ]
        refine wpAnyH_take (i := 14) (oi := ?_) (v := ?_) ?_ (by kernel_rfl) (by kernel_rfl) (by kernel_rfl) (fun _ _ _ h => h) ?_ (by assumption) ?_
        rotate_left 2
        · simp only [List.getElem?_toArray, List.getElem?_cons_succ, List.getElem?_cons_zero]; exact rfl
        · refine Or.inl ⟨by rfl, ?_⟩; intro w hSw; (try dsimp only at hSw); go_simp; try with_reducible rfl
        try simp only [Act.put, List.setIfInBounds_toArray, List.set_cons_zero, List.set_cons_succ]
        refine wpAnyH_take (i := 15) (oi := ?_) (v := ?_) ?_ (by kernel_rfl) (by kernel_rfl) (by kernel_rfl) (fun _ _ _ h => h) ?_ (by assumption) ?_
        rotate_left 2
        · simp only [List.getElem?_toArray, List.getElem?_cons_succ, List.getElem?_cons_zero]; exact rfl
        · refine Or.inl ⟨by rfl, ?_⟩; intro w hSw; (try dsimp only at hSw); go_simp; try with_reducible rfl
        try simp only [Act.put, List.setIfInBounds_toArray, List.set_cons_zero, List.set_cons_succ]
        refine wpAnyH_ready (rs := [9]) (by kernel_rfl) (by simp) ?_
        refine AllReadyH.cons (o := ?_) ?_ ?_ AllReadyH.nil
        rotate_left
        · simp only [List.getElem?_toArray, List.getElem?_cons_succ, List.getElem?_cons_zero]; exact rfl
        intro K hK
        go_simp
        refine (A5.out _).mono ?_
        rintro e u11_2 ⟨rfl, y2⟩
        have B11_2 : Below v10.heap.size v10 u11_2 := bel_tr B11_1 y2
        clear y2 B11_1 hHeld
        refine hK.out _ _ (HK _ B11_2) (fun hHeld => ?_)
        clear hK K
        try simp only [Act.put, List.setIfInBounds_toArray, List.set_cons_zero, List.set_cons_succ]
        refine wpAnyH_ready (rs := [11]) (by kernel_rfl) (by simp) ?_
        refine AllReadyH.cons (o := ?_) ?_ ?_ AllReadyH.nil
        rotate_left
        · simp only [List.getElem?_toArray, List.getElem?_cons_succ, List.getElem?_cons_zero]; exact rfl
        intro K hK
        go_simp
        refine (AR1.out _).mono ?_
        rintro e u11_3 ⟨rfl, y3⟩
        have B11_3 : Below v10.heap.size v10 u11_3 := bel_tr B11_2 y3
        clear y3 B11_2 hHeld
        refine hK.out _ _ (HK _ B11_3) (fun hHeld => ?_)
        clear hK K
        try simp only [Act.put, List.setIfInBounds_toArray, List.set_cons_zero, List.set_cons_succ]
        refine wpAnyH_ready (rs := [16]) (by kernel_rfl) (by simp) ?_
        refine AllReadyH.cons (o := ?_) ?_ ?_ AllReadyH.nil
        rotate_left
        · simp only [List.getElem?_toArray, List.getElem?_cons_succ, List.getElem?_cons_zero]; exact rfl
        intro K hK
        go_simp
        refine (AX2.out _).mono ?_
        rintro e u11_4 ⟨rfl, y4⟩
        have B11_4 : Below v10.heap.size v10 u11_4 := bel_tr B11_3 y4
        clear y4 B11_3 hHeld
        refine hK.out _ _ (HK _ B11_4) (fun hHeld => ?_)
        clear hK K
        try simp only [Act.put, List.setIfInBounds_toArray, List.set_cons_zero, List.set_cons_succ]
        refine wpAnyH_take (i := 17) (oi := ?_) (v := ?_) ?_ (by kernel_rfl) (by kernel_rfl) (by kernel_rfl) (fun _ _ _ h => h) ?_ (by assumption) ?_
        rotate_left 2
        · simp only [List.getElem?_toArray, List.getElem?_cons_succ, List.getElem?_cons_zero]; exact rfl
        · refine Or.inl ⟨by rfl, ?_⟩; intro w hSw; (try dsimp only at hSw); go_simp; try with_reducible rfl
        try simp only [Act.put, List.setIfInBounds_toArray, List.set_cons_zero, List.set_cons_succ]
        refine wpAnyH_take (i := 18) (oi := ?_) (v := ?_) ?_ (by kernel_rfl) (by kernel_rfl) (by kernel_rfl) (fun _ _ _ h => h) ?_ (by assumption) ?_
        rotate_left 2
        · simp only [List.getElem?_toArray, List.getElem?_cons_succ, List.getElem?_cons_zero]; exact rfl
        · refine Or.inl ⟨by rfl, ?_⟩; intro w hSw; (try dsimp only at hSw); go_simp; try with_reducible rfl
        try simp only [Act.put, List.setIfInBounds_toArray, List.set_cons_zero, List.set_cons_succ]
        refine wpAnyH_done (by kernel_rfl) ?_ _
        refine NoPanic.normal ?_
        clear HK
        have Na := Fa.out.on B11_4
        have Nbk := Fbk.out.on B11_4
        have NB := bel_tr BW.out B11_4
        clear BW hHeld B11_4 Fa Fbk
        have Fa := Lib.hid Na
        have Fbk := Lib.hid Nbk
        have BW := Lib.hid NB
        clear NB Na Nbk
        go_wp2
        go_roundw
        case rel => exact ⟨i + 1, by omega, by go_num, Fa, Fbk, BW⟩
        case measure => simp [intOf]; omega
    · obtain rfl : i = 256 := by omega
      clear AB AX AR KB KR
      go_wp2_with fail
      have HK : ∀ w', Below wr.heap.size wr w' → (w'.cell? ⟨ga, 0, none⟩ = some (.int .u64 (wd X 0 : Nat)) ∧ w'.cell? ⟨ga, 1, none⟩ = some (.int .u64 (wd X 1 : Nat)) ∧ w'.cell? ⟨ga, 2, none⟩ = some (.int .u64 (wd X 2 : Nat)) ∧ w'.cell? ⟨ga, 3, none⟩ = some (.int .u64 (wd X 3 : Nat)) ∧ Below wr.heap.size wr w') := fun w' h => ⟨cell_on h (Fa.out.cell 0), cell_on h (Fa.out.cell 1), cell_on h (Fa.out.cell 2), cell_on h (Fa.out.cell 3), h⟩
      clear Fa Fbk
      try simp only [List.append_eq, List.cons_append, List.nil_append]
      have B10_0 : Below wr.heap.size wr wr.drew := (Below.refl _ _).drew
      refine wp_region_noPanic ?_
      refine wp_region_held_drew (S := fun w' => w'.cell? ⟨ga, 0, none⟩ = some (.int .u64 (wd X 0 : Nat)) ∧ w'.cell? ⟨ga, 1, none⟩ = some (.int .u64 (wd X 1 : Nat)) ∧ w'.cell? ⟨ga, 2, none⟩ = some (.int .u64 (wd X 2 : Nat)) ∧ w'.cell? ⟨ga, 3, none⟩ = some (.int .u64 (wd X 3 : Nat)) ∧ Below wr.heap.size wr w') (by kernel_rfl) (HK _ B10_0) (fun hHeld => ?_)
      refine wpAnyH_take (i := 0) (oi := ?_) (v := ?_) ?_ (by kernel_rfl) (by kernel_rfl) (by kernel_rfl) (fun _ _ _ h => h) ?_ (by assumption) ?_
      rotate_left 2
      · simp only [List.getElem?_toArray, List.getElem?_cons_succ, List.getElem?_cons_zero]; exact rfl
      · refine Or.inl ⟨by rfl, ?_⟩; intro w hSw; (try dsimp only at hSw); go_simp; try with_reducible rfl
      try simp only [Act.put, List.setIfInBounds_toArray, List.set_cons_zero, List.set_cons_succ]
      refine wpAnyH_ready (rs := [1]) (by kernel_rfl) (by simp) ?_
      refine AllReadyH.cons (o := ?_) ?_ ?_ AllReadyH.nil
      rotate_left
      · simp only [List.getElem?_toArray, List.getElem?_cons_succ, List.getElem?_cons_zero]; exact rfl
      intro K hK
      go_simp
      refine (A6.out _).mono ?_
      rintro e u10_1 ⟨rfl, y1⟩
      have B10_1 : Below wr.heap.size wr u10_1 := bel_tr B10_0 y1
      clear y1 B10_0 hHeld
      refine hK.out _ _ (HK _ B10_1) (fun hHeld => ?_)
      clear hK K
      try simp only [Act.put, List.setIfInBounds_toArray, List.set_cons_zero, List.set_cons_succ]
      refine wpAnyH_ready (rs := [2]) (by kernel_rfl) (by simp) ?_
      refine AllReadyH.cons (o := ?_) ?_ ?_ AllReadyH.nil
      rotate_left
      · simp only [List.getElem?_toArray, List.getElem?_cons_succ, List.getElem?_cons_zero]; exact rfl
      intro K hK
      go_simp
      refine (of0N _).mono ?_
      rintro e u10_2 ⟨rfl, y2⟩
      have B10_2 : Below wr.heap.size wr u10_2 := bel_tr B10_1 y2
      clear y2 B10_1 hHeld
      refine hK.out _ _ (HK _ B10_2) (fun hHeld => ?_)
      clear hK K
      try simp only [Act.put, List.setIfInBounds_toArray, List.set_cons_zero, List.set_cons_succ]
      refine wpAnyH_take (i := 3) (oi := ?_) (v := ?_) ?_ (by kernel_rfl) (by kernel_rfl) (by kernel_rfl) (fun _ _ _ h => h) ?_ (by assumption) ?_
      rotate_left 2
      · simp only [List.getElem?_toArray, List.getElem?_cons_succ, List.getElem?_cons_zero]; exact rfl
      · refine Or.inl ⟨by rfl, ?_⟩; intro w hSw; (try dsimp only at hSw); go_simp; try with_reducible rfl
      try simp only [Act.put, List.setIfInBounds_toArray, List.set_cons_zero, List.set_cons_succ]
      refine wpAnyH_take (i := 4) (oi := ?_) (v := ?_) ?_ (by kernel_rfl) (by kernel_rfl) (by kernel_rfl) (fun _ _ _ h => h) ?_ (by assumption) ?_
      rotate_left 2
      · simp only [List.getElem?_toArray, List.getElem?_cons_succ, List.getElem?_cons_zero]; exact rfl
      · refine Or.inl ⟨by rfl, ?_⟩; intro w hSw; (try dsimp only at hSw); go_simp; try with_reducible rfl
      try simp only [Act.put, List.setIfInBounds_toArray, List.set_cons_zero, List.set_cons_succ]
      refine wpAnyH_take (i := 5) (oi := ?_) (v := ?_) ?_ (by kernel_rfl) (by kernel_rfl) (by kernel_rfl) (fun _ _ _ h => h) ?_ (by assumption) ?_
      rotate_left 2
      · simp only [List.getElem?_toArray, List.getElem?_cons_succ, List.getElem?_cons_zero]; exact rfl
      · refine Or.inl ⟨by rfl, ?_⟩; intro w hSw; (try dsimp only at hSw); go_simp; try with_reducible rfl
      try simp only [Act.put, List.setIfInBounds_toArray, List.set_cons_zero, List.set_cons_succ]
      refine wpAnyH_ready (rs := [6]) (by kernel_rfl) (by simp) ?_
      refine AllReadyH.cons (o := ?_) ?_ ?_ AllReadyH.nil
      rotate_left
      · simp only [List.getElem?_toArray, List.getElem?_cons_succ, List.getElem?_cons_zero]; exact rfl
      intro K hK
      go_simp
      refine (A7.out _).mono ?_
      rintro e u10_3 ⟨rfl, y3⟩
      have B10_3 : Below wr.heap.size wr u10_3 := bel_tr B10_2 y3
      clear y3 B10_2 hHeld
      refine hK.out _ _ (HK _ B10_3) (fun hHeld => ?_)
      clear hK K
      try simp only [Act.put, List.setIfInBounds_toArray, List.set_cons_zero, List.set_cons_succ]
      refine wpAnyH_ready (rs := [7]) (by kernel_rfl) (by simp) ?_
      refine AllReadyH.cons (o := ?_) ?_ ?_ AllReadyH.nil
      rotate_left
      · simp only [List.getElem?_toArray, List.getElem?_cons_succ, List.getElem?_cons_zero]; exact rfl
      intro K hK
      go_simp
      refine (of0N _).mono ?_
      rintro e u10_4 ⟨rfl, y4⟩
      have B10_4 : Below wr.heap.size wr u10_4 := bel_tr B10_3 y4
      clear y4 B10_3 hHeld
      refine hK.out _ _ (HK _ B10_4) (fun hHeld => ?_)
      clear hK K
      try simp only [Act.put, List.setIfInBounds_toArray, List.set_cons_zero, List.set_cons_succ]
      refine wpAnyH_take (i := 8) (oi := ?_) (v := ?_) ?_ (by kernel_rfl) (by kernel_rfl) (by kernel_rfl) (fun _ _ _ h => h) ?_ (by assumption) ?_
      rotate_left 2
      · simp only [List.getElem?_toArray, List.getElem?_cons_succ, List.getElem?_cons_zero]; exact rfl
      · refine Or.inl ⟨by rfl, ?_⟩; intro w hSw; (try dsimp only at hSw); go_simp; try with_reducible rfl
      try simp only [Act.put, List.setIfInBounds_toArray, List.set_cons_zero, List.set_cons_succ]
      refine wpAnyH_take (i := 9) (oi := ?_) (v := ?_) ?_ (by kernel_rfl) (by kernel_rfl) (by kernel_rfl) (fun _ _ _ h => h) ?_ (by assumption) ?_
      rotate_left 2
      · simp only [List.getElem?_toArray, List.getElem?_cons_succ, List.getElem?_cons_zero]; exact rfl
      · refine Or.inl ⟨by rfl, ?_⟩; intro w hSw; (try dsimp only at hSw); go_simp; try with_reducible rfl
      try simp only [Act.put, List.setIfInBounds_toArray, List.set_cons_zero, List.set_cons_succ]
      refine wpAnyH_take (i := 10) (oi := ?_) (v := ?_) ?_ (by kernel_rfl) (by kernel_rfl) (by kernel_rfl) (fun _ _ _ h => h) ?_ (by assumption) ?_
      rotate_left 2
      · simp only [List.getElem?_toArray, List.getElem?_cons_succ, List.getElem?_cons_zero]; exact rfl
      · refine Or.inl ⟨by rfl, ?_⟩; intro w hSw; (try dsimp only at hSw); go_simp; try with_reducible rfl
      try simp only [Act.put, List.setIfInBounds_toArray, List.set_cons_zero, List.set_cons_succ]
      refine wpAnyH_take (i := 11) (oi := ?_) (v := ?_) ?_ (by kernel_rfl) (by kernel_rfl) (by kernel_rfl) (fun _ _ _ h => h) ?_ (by assumption) ?_
      rotate_left 2
      · simp only [List.getElem?_toArray, List.getElem?_cons_succ, List.getElem?_cons_zero]; exact rfl
      · refine Or.inl ⟨by rfl, ?_⟩; intro w hSw; (try dsimp only at hSw); go_simp; try with_reducible rfl
      try simp only [Act.put, List.setIfInBounds_toArray, List.set_cons_zero, List.set_cons_succ]
      refine wpAnyH_take (i := 13) (oi := ?_) (v := ?_) ?_ (by kernel_rfl) (by kernel_rfl) (by kernel_rfl) (fun _ _ _ h => h) ?_ (by assumption) ?_
      rotate_left 2
      · simp only [List.getElem?_toArray, List.getElem?_cons_succ, List.getElem?_cons_zero]; exact rfl
      · refine Or.inl ⟨by rfl, ?_⟩; intro w hSw; (try dsimp only at hSw); go_simp; try with_reducible rfl
      try simp only [Act.put, List.setIfInBounds_toArray, List.set_cons_zero, List.set_cons_succ]
      refine wpAnyH_ready (rs := [12]) (by kernel_rfl) (by simp) ?_
      refine AllReadyH.cons (o := ?_) ?_ ?_ AllReadyH.nil
      rotate_left
      · simp only [List.getElem?_toArray, List.getElem?_cons_succ, List.getElem?_cons_zero]; exact rfl
      intro K hK
      go_simp
      refine (A8.out _).mono ?_
      rintro e u10_5 ⟨rfl, y5⟩
      have B10_5 : Below wr.heap.size wr u10_5 := bel_tr B10_4 y5
      clear y5 B10_4 hHeld
      refine hK.out _ _ (HK _ B10_5) (fun hHeld => ?_)
      clear hK K
      try simp only [Act.put, List.setIfInBounds_toArray, List.set_cons_zero, List.set_cons_succ]
      refine wpAnyH_take (i := 14) (oi := ?_) (v := ?_) ?_ (by kernel_rfl) (by kernel_rfl) (by kernel_rfl) (fun _ _ _ h => h) ?_ (by assumption) ?_
      rotate_left 2
      · simp only [List.getElem?_toArray, List.getElem?_cons_succ, List.getElem?_cons_zero]; exact rfl
      · refine Or.inl ⟨by rfl, ?_⟩; intro w hSw; (try dsimp only at hSw); go_simp; try with_reducible rfl
      try simp only [Act.put, List.setIfInBounds_toArray, List.set_cons_zero, List.set_cons_succ]
      refine wpAnyH_take (i := 15) (oi := ?_) (v := ?_) ?_ (by kernel_rfl) (by kernel_rfl) (by kernel_rfl) (fun _ _ _ h => h) ?_ (by assumption) ?_
      rotate_left 2
      · simp only [List.getElem?_toArray, List.getElem?_cons_succ, List.getElem?_cons_zero]; exact rfl
      · refine Or.inl ⟨by rfl, ?_⟩; intro w hSw; (try dsimp only at hSw); go_simp; try with_reducible rfl
      try simp only [Act.put, List.setIfInBounds_toArray, List.set_cons_zero, List.set_cons_succ]
      refine wpAnyH_take (i := 16) (oi := ?_) (v := ?_) ?_ (by kernel_rfl) (by kernel_rfl) (by kernel_rfl) (fun _ _ _ h => h) ?_ (by assumption) ?_
      rotate_left 2
      · simp only [List.getElem?_toArray, List.getElem?_cons_succ, List.getElem?_cons_zero]; exact rfl
      · refine Or.inl ⟨by rfl, ?_⟩; intro w hSw; (try dsimp only at hSw); go_simp; try with_reducible rfl
      try simp only [Act.put, List.setIfInBounds_toArray, List.set_cons_zero, List.set_cons_succ]
      refine wpAnyH_done (by kernel_rfl) ?_ _
      refine NoPanic.normal ?_
      clear HK
      go_wp2
      go_ret
      exact ⟨rfl, bel_tr BW.out B10_5⟩
end Go.Proofs.Ytamglpncdgiocaa
