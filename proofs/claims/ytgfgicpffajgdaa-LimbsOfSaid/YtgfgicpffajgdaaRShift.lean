/-
  balefireref02.Shift: bit by bit.
-/
import Derived.Test.YtgfgicpffajgdaaRCmp
import Derived.Test.YtgfgicpffajgdaaDiv
namespace Go.Proofs.Ytgfgicpffajgdaa
open Go.RowKit
attribute [local go_sem ↓] Go.wp_at_zero Go.wp_at_succ

/-- one bit more -/
theorem bit_on (P i q r : Nat) (hi : i < 256) (hq : q = i / 64) (hr : r = i % 64) (hP : P < 2 ^ i) :
    wd (P + 2 ^ i) q = wd P q + 2 ^ r ∧ 2 ^ r < 18446744073709551616 ∧ wd P q + 2 ^ r < 18446744073709551616 ∧ ∀ k, k ≠ q → wd (P + 2 ^ i) k = wd P k := by
  have hi4 : i = 64 * q + r := by omega
  obtain ⟨u, hu⟩ : ∃ u, u = 2 ^ r := ⟨_, rfl⟩
  have hu0 : 0 < u := by rw [hu]; exact Nat.two_pow_pos _
  have hu4 : u * 2 ≤ 18446744073709551616 := by
    have : 2 ^ r ≤ 2 ^ 63 := Nat.pow_le_pow_right (by decide) (by omega)
    omega
  obtain ⟨B, hB⟩ : ∃ B, B = (18446744073709551616 : Nat) ^ q := ⟨_, rfl⟩
  have ep : (2 : Nat) ^ i = B * u := by rw [hi4, Nat.pow_add, hB, B_pow, hu]
  have hB0 : 0 < B := by rw [hB]; exact Nat.pow_pos (by decide)
  rw [← hu]
  rw [ep] at hP ⊢
  have hPq : P / B < u := Nat.div_lt_of_lt_mul hP
  have e1 : wd P q = P / B := by unfold wd; rw [← hB]; exact Nat.mod_eq_of_lt (by omega)
  have e2 : wd (P + B * u) q = P / B + u := by
    unfold wd
    rw [← hB, Nat.add_mul_div_left _ _ hB0]
    exact Nat.mod_eq_of_lt (by omega)
  refine ⟨by rw [e1, e2], by omega, by rw [e1]; omega, fun k hk => ?_⟩
  unfold wd
  by_cases h : k < q
  · have e3 : B = 18446744073709551616 ^ k * (18446744073709551616 * 18446744073709551616 ^ (q - k - 1)) := by
      rw [hB, ← Nat.pow_succ', ← Nat.pow_add]; congr 1; omega
    rw [e3]
    rw [show 18446744073709551616 ^ k * (18446744073709551616 * 18446744073709551616 ^ (q - k - 1)) * u = 18446744073709551616 ^ k * (18446744073709551616 * (18446744073709551616 ^ (q - k - 1) * u)) by ac_rfl]
    rw [Nat.add_mul_div_left _ _ (Nat.pow_pos (by decide)), Nat.add_mul_mod_self_left]
  · have hkq : q + 1 ≤ k := by omega
    have lt : ∀ Z, Z < B * 18446744073709551616 → Z / 18446744073709551616 ^ k = 0 := fun Z hZ => Nat.div_eq_of_lt (Nat.lt_of_lt_of_le hZ (by rw [hB, ← Nat.pow_succ]; exact Nat.pow_le_pow_right (by decide) hkq))
    have h1 : P < B * 18446744073709551616 := Nat.lt_of_lt_of_le hP (Nat.mul_le_mul_left B (by omega))
    have h2 : P + B * u < B * 18446744073709551616 := by
      have : B * (u * 2) ≤ B * 18446744073709551616 := Nat.mul_le_mul_left B hu4
      have : B * (u * 2) = B * u + B * u := by rw [Nat.mul_comm u 2, Nat.mul_left_comm, Nat.two_mul]
      omega
    rw [lt _ h1, lt _ h2]

theorem sh_bit (X : Nat) (hX : X < 2 ^ 256) (n : Int) (i : Nat) (hi : i < 256) : shN X n % 2 ^ (i + 1) = shN X n % 2 ^ i + 2 ^ i * bt X ((i : Int) - n) := by
  rw [Nat.mod_pow_succ]
  congr 2
  have h := sh_tb X hX n i
  rw [Nat.testBit_eq_decide_div_mod_eq, decide_eq_true hi, Bool.true_and] at h
  have hl : shN X n / 2 ^ i % 2 < 2 := Nat.mod_lt _ (by decide)
  unfold tb at h
  unfold bt
  by_cases h0 : (i : Int) - n < 0
  · rw [if_pos h0]
    rw [decide_eq_false (show ¬ 0 ≤ (i : Int) - n by omega), Bool.false_and] at h
    have : shN X n / 2 ^ i % 2 ≠ 1 := fun e => by rw [e] at h; simp at h
    omega
  · rw [if_neg h0]
    rw [decide_eq_true (show 0 ≤ (i : Int) - n by omega), Bool.true_and, Nat.testBit_eq_decide_div_mod_eq] at h
    have hl2 : X / 2 ^ ((i : Int) - n).toNat % 2 < 2 := Nat.mod_lt _ (by decide)
    have := decide_eq_decide.1 h
    omega
theorem sh_far (X : Nat) (hX : X < 2 ^ 256) (n : Int) (h : n < -256 ∨ 256 < n) : shN X n = 0 := by
  unfold shN
  rcases h with h | h
  · rw [if_neg (by omega)]
    exact Nat.div_eq_of_lt (Nat.lt_of_lt_of_le hX (Nat.pow_le_pow_right (by decide) (by omega)))
  · rw [if_pos (by omega)]
    have e : (2 : Nat) ^ n.toNat = 2 ^ 256 * 2 ^ (n.toNat - 256) := by rw [← Nat.pow_add, show 256 + (n.toNat - 256) = n.toNat by omega]
    rw [e]
    generalize (2 : Nat) ^ 256 = b
    rw [Nat.mul_left_comm, Nat.mul_mod_right]

set_option maxRecDepth 100000 in
set_option maxHeartbeats 4000000 in
theorem rshift_any (X : Nat) (hX : X < 2 ^ 256) (n : Int) (hn : -9223372036854775808 ≤ n) (hn' : n ≤ 9223372036854775807) (w : World) : Calls Try.prog 28 #[num X, .int .i64 n] w fun e w' => e = .returned (num (shN X n)) ∧ Below w.heap.size w w' := by
  by_cases h1 : n < -256
  · rw [sh_far X hX n (Or.inl h1), num_zero]
    go_enter Try.func28, Try.ntmps28
    go_wp2
    exact bodyPost_ret (v := .agg #[.int .u64 0, .int .u64 0, .int .u64 0, .int .u64 0]) (by simp [results, Try.results28, go_sem]) rfl ⟨rfl, by repeat (first | exact Below.refl _ _ | refine gr_alloc ?_ _ | refine Below.setCell ?_ (by simp) _ | refine Below.setCell ?_ (by simp; omega) _)⟩
  by_cases h2 : 256 < n
  · rw [sh_far X hX n (Or.inr h2), num_zero]
    have h1' : decide (n < -256) = false := by simp; omega
    go_enter Try.func28, Try.ntmps28
    go_wp2
    exact bodyPost_ret (v := .agg #[.int .u64 0, .int .u64 0, .int .u64 0, .int .u64 0]) (by simp [results, Try.results28, go_sem]) rfl ⟨rfl, by repeat (first | exact Below.refl _ _ | refine gr_alloc ?_ _ | refine Below.setCell ?_ (by simp) _ | refine Below.setCell ?_ (by simp; omega) _)⟩
  have h1' : decide (n < -256) = false := by simp; omega
  have h2' : decide (256 < n) = false := by simp; omega
  have m1 : -256 ≤ n := by omega
  have m2 : n ≤ 256 := by omega
  have HX := Lib.hid hX
  have HN := Lib.hid (sh_lt X hX n)
  clear hX hn hn' h1 h2
  go_enter Try.func28, Try.ntmps28
  go_wp2_with fail
  have BW := Lib.hid (Below.refl w.heap.size w)
  have Na : At (((w.alloc (.cells #[.int .u64 (wd X 0 : Nat), .int .u64 (wd X 1 : Nat), .int .u64 (wd X 2 : Nat), .int .u64 (wd X 3 : Nat)] 24)).alloc (.cells #[.int .u64 0, .int .u64 0, .int .u64 0, .int .u64 0] 24)).alloc (.cells #[.int .u64 0, .int .u64 0, .int .u64 0, .int .u64 0] 24)) (w.heap.size) 24 #[.int .u64 (wd X 0 : Nat), .int .u64 (wd X 1 : Nat), .int .u64 (wd X 2 : Nat), .int .u64 (wd X 3 : Nat)] := ((At.at_ _ _ _ _ (by simp)).alloc _).alloc _
  have Nr : At (((w.alloc (.cells #[.int .u64 (wd X 0 : Nat), .int .u64 (wd X 1 : Nat), .int .u64 (wd X 2 : Nat), .int .u64 (wd X 3 : Nat)] 24)).alloc (.cells #[.int .u64 0, .int .u64 0, .int .u64 0, .int .u64 0] 24)).alloc (.cells #[.int .u64 0, .int .u64 0, .int .u64 0, .int .u64 0] 24)) (w.heap.size + 1) 24 #[.int .u64 0, .int .u64 0, .int .u64 0, .int .u64 0] := (At.at_ _ _ _ _ (by simp)).alloc _
  have Er : w.heap.size ≤ w.heap.size + 1 := by have := BW.out.size; omega
  have Dar : w.heap.size ≠ w.heap.size + 1 := by omega
  have No : At (((w.alloc (.cells #[.int .u64 (wd X 0 : Nat), .int .u64 (wd X 1 : Nat), .int .u64 (wd X 2 : Nat), .int .u64 (wd X 3 : Nat)] 24)).alloc (.cells #[.int .u64 0, .int .u64 0, .int .u64 0, .int .u64 0] 24)).alloc (.cells #[.int .u64 0, .int .u64 0, .int .u64 0, .int .u64 0] 24)) (w.heap.size + 1 + 1) 24 #[.int .u64 0, .int .u64 0, .int .u64 0, .int .u64 0] := At.at_ _ _ _ _ (by simp)
  have Eo : w.heap.size ≤ w.heap.size + 1 + 1 := by have := BW.out.size; omega
  have Dao : w.heap.size ≠ w.heap.size + 1 + 1 := by omega
  have Dro : w.heap.size + 1 ≠ w.heap.size + 1 + 1 := by omega
  have NB : Below w.heap.size w (((w.alloc (.cells #[.int .u64 (wd X 0 : Nat), .int .u64 (wd X 1 : Nat), .int .u64 (wd X 2 : Nat), .int .u64 (wd X 3 : Nat)] 24)).alloc (.cells #[.int .u64 0, .int .u64 0, .int .u64 0, .int .u64 0] 24)).alloc (.cells #[.int .u64 0, .int .u64 0, .int .u64 0, .int .u64 0] 24)) := gr_alloc (gr_alloc (gr_alloc BW.out _) _) _
  clear BW 
  generalize (((w.alloc (.cells #[.int .u64 (wd X 0 : Nat), .int .u64 (wd X 1 : Nat), .int .u64 (wd X 2 : Nat), .int .u64 (wd X 3 : Nat)] 24)).alloc (.cells #[.int .u64 0, .int .u64 0, .int .u64 0, .int .u64 0] 24)).alloc (.cells #[.int .u64 0, .int .u64 0, .int .u64 0, .int .u64 0] 24)) = W1 at *
  generalize w.heap.size + 1 + 1 = go at *
  generalize w.heap.size + 1 = gr at *
  obtain ⟨ga, hg0⟩ : ∃ g, g = w.heap.size := ⟨_, rfl⟩
  rw [← hg0] at Na ⊢
  rw [← hg0] at Dar Dao
  clear hg0
  have Fa := Lib.hid Na
  have Fr := Lib.hid Nr
  have Fo := Lib.hid No
  have BW := Lib.hid NB
  clear NB Na Nr No
  go_loopw [6] (fun s wr => ∃ i : Nat, i ≤ 256 ∧ s = .int .i64 (i : Nat) ∧ Hid (At wr ga 24 #[.int .u64 (wd X 0 : Nat), .int .u64 (wd X 1 : Nat), .int .u64 (wd X 2 : Nat), .int .u64 (wd X 3 : Nat)] ∧ At wr gr 24 #[.int .u64 0, .int .u64 0, .int .u64 0, .int .u64 0] ∧ At wr go 24 #[.int .u64 (wd (shN X n % 2 ^ i) 0 : Nat), .int .u64 (wd (shN X n % 2 ^ i) 1 : Nat), .int .u64 (wd (shN X n % 2 ^ i) 2 : Nat), .int .u64 (wd (shN X n % 2 ^ i) 3 : Nat)] ∧ Below w.heap.size w wr)) (fun s _ => 256 - (intOf s).toNat)
  case atStart =>
    refine ⟨0, by omega, rfl, Fa.out, Fr.out, ?_, BW.out⟩
    have e : ∀ k, wd (shN X n % 2 ^ 0) k = 0 := fun k => by rw [Nat.pow_zero, Nat.mod_one]; simp [wd]
    rw [e, e, e, e]; exact Fo.out
  case round =>
    obtain ⟨i, hi, rfl, hM⟩ := hrel
    clear Fa Fr Fo BW
    have Fa := Lib.hid hM.out.1; have Fr := Lib.hid hM.out.2.1; have Fo := Lib.hid hM.out.2.2.1; have BW := Lib.hid hM.out.2.2.2
    clear hM
    by_cases hlt : i < 256
    · have hb := sh_bit X HX.out n i hlt
      have CB := rbit_any X HX.out ((i : Int) - n)
      have hb2 : bt X ((i : Int) - n) = 0 ∨ bt X ((i : Int) - n) = 1 := by unfold bt; split <;> omega
      have hPl : shN X n % 2 ^ i < 2 ^ i := Nat.mod_lt _ (Nat.two_pow_pos i)
      have i0 : (0 : Int) ≤ (i : Int) := by omega
      have i256 : (i : Int) < 256 := by omega
      have gsub : IntKind.i64.wrap ((i : Int) - n) = (i : Int) - n := by rw [IntKind.wrap_i64]; omega
      generalize hz : bt X ((i : Int) - n) = z at *
      have HB := Lib.hid hb; have HC := Lib.hid CB; have HPL := Lib.hid hPl
      clear hb CB hPl hz
      have c0 : wr.cell? ⟨ga, 0, none⟩ = some (.int .u64 (wd X 0 : Nat)) := Fa.out.cell 0
      have c1 : wr.cell? ⟨ga, 1, none⟩ = some (.int .u64 (wd X 1 : Nat)) := Fa.out.cell 1
      have c2 : wr.cell? ⟨ga, 2, none⟩ = some (.int .u64 (wd X 2 : Nat)) := Fa.out.cell 2
      have c3 : wr.cell? ⟨ga, 3, none⟩ = some (.int .u64 (wd X 3 : Nat)) := Fa.out.cell 3
      go_wp2_with fail
      clear c0 c1 c2 c3 gsub
      refine (HC.out _).mono ?_
      rintro e v ⟨rfl, zz⟩
      have Na := Fa.out.on zz; have Nr := Fr.out.on zz; have No := Fo.out.on zz; have NB := bel_tr BW.out zz
      clear Fa Fr Fo BW zz
      have Fa := Lib.hid Na; have Fr := Lib.hid Nr; have Fo := Lib.hid No; have BW := Lib.hid NB
      clear Na Nr No NB
      rcases hb2 with rfl | rfl
      · go_wp2_with fail
        go_roundw
        case rel =>
          have e := HB.out
          simp only [Nat.mul_zero, Nat.add_zero] at e
          have No := Fo.out
          rw [← e] at No
          first
            | exact ⟨i + 1, by omega, by go_num, Fa.out, Fr.out, No, BW.out⟩
            | ((repeat apply Exists.intro); exact ⟨⟨i + 1, by omega, by go_num, Fa.out, Fr.out, No, BW.out⟩, rfl⟩)
        case measure => (simp [intOf] <;> omega)
      · obtain ⟨q, hq⟩ : ∃ q, q = i / 64 := ⟨_, rfl⟩
        obtain ⟨r, hr⟩ : ∃ r, r = i % 64 := ⟨_, rfl⟩
        obtain ⟨b1, b2, b3, b4⟩ := bit_on _ i q r hlt hq hr HPL.out
        have e := HB.out
        rw [Nat.mul_one] at e
        rw [← e] at b1 b4
        have q4 : q < 4 := by omega
        have fa : v.drew.cell? ⟨go, q, none⟩ = some (.int .u64 (wd (shN X n % 2 ^ i) q : Nat)) := by
          rw [Fo.out.drew.cell]
          match q, q4 with
          | 0, _ | 1, _ | 2, _ | 3, _ => rfl
        have ff : v.drew.frozen? ⟨go, q, none⟩ = false := Fo.out.drew.frozen q
        have gd : Int.tdiv (i : Int) 64 = (q : Nat) := by rw [Int.tdiv_eq_ediv_of_nonneg (by omega)]; omega
        have gd2 : (i : Int) / 64 = (q : Nat) := by omega
        have gm : Int.tmod (i : Int) 64 = (r : Nat) := by rw [Int.tmod_eq_emod_of_nonneg (by omega)]; omega
        have gm2 : (i : Int) % 64 = (r : Nat) := by omega
        have gw : IntKind.i64.wrap ((q : Nat) : Int) = (q : Nat) := by rw [IntKind.wrap_i64]; omega
        have gwr : IntKind.i64.wrap ((r : Nat) : Int) = (r : Nat) := by rw [IntKind.wrap_i64]; omega
        have q0 : (0 : Int) ≤ (q : Int) := by omega
        have q4' : (q : Int) < 4 := by omega
        have r0 : (0 : Int) ≤ (r : Int) := by omega
        have r64 : (r : Int) < 64 := by omega
        have HB1 := Lib.hid b1; have HB4 := Lib.hid b4; have HB3 := Lib.hid b3
        obtain ⟨y, hy⟩ : ∃ y, wd (shN X n % 2 ^ i) q = y := ⟨_, rfl⟩
        rw [hy] at fa HB1 HB3
        obtain ⟨z, hz⟩ : ∃ z, 2 ^ r = z := ⟨_, rfl⟩
        rw [hz] at b2 HB1 HB3
        have gsh : IntKind.u64.wrap (1 * (2 : Int) ^ r) = (z : Nat) := by rw [show 1 * (2 : Int) ^ r = ((z : Nat) : Int) by rw [← hz]; simp, IntKind.wrap_u64]; omega
        have gsh2 : IntKind.u64.wrap ((2 : Int) ^ r) = (z : Nat) := by rw [show (2 : Int) ^ r = ((z : Nat) : Int) by rw [← hz]; simp, IntKind.wrap_u64]; omega
        have gad : IntKind.u64.wrap ((y : Int) + (z : Int)) = ((y + z : Nat) : Int) := by have := HB3.out; rw [IntKind.wrap_u64]; omega
        have HY := Lib.hid hy; have HZ := Lib.hid hz
        clear hy hz b1 b2 b3 b4 e hq hr
        go_wp2_with fail
        refine wp_region_still_tail 11 (by kernel_rfl) (by kernel_rfl) ?_
        simp only [List.take_succ_cons, List.take_zero, List.drop_succ_cons, List.drop_zero]
        change wpStill _ _ v.drew (fun a' => wpList _ _ _ _ a' v.drew) _ _
        obtain ⟨wj, hwj⟩ : ∃ wj, v.drew = wj := ⟨_, rfl⟩
        have hwj' := Lib.hid hwj
        rw [hwj] at fa ff ⊢
        clear hwj
        repeat still_step
        refine wpStill_nil ?_
        go_wp2
        go_roundw
        case rel =>
          have nao : ga ≠ go := by first | exact Dao | exact Doa.symm
          have nro : gr ≠ go := by first | exact Dro | exact Dor.symm
          have No := Fo.out.drew.set q (.int .u64 ((y + z : Nat) : Int))
          rw [set_cell _ (shN X n % 2 ^ (i + 1)) q (y + z) q4 HB1.out.symm HB4.out] at No
          have NA := Fa.out.drew.far (p := ⟨go, q, none⟩) (by exact fun e => nao e.symm) (.int .u64 ((y + z : Nat) : Int))
          have NR := Fr.out.drew.far (p := ⟨go, q, none⟩) (by exact fun e => nro e.symm) (.int .u64 ((y + z : Nat) : Int))
          have NB : Below w.heap.size w (v.drew.setCell ⟨go, q, none⟩ (.int .u64 ((y + z : Nat) : Int))) := BW.out.drew.setCell Eo _
          rw [hwj'.out] at No NA NR NB
          first
            | exact ⟨i + 1, by omega, by go_num, NA, NR, No, NB⟩
            | ((repeat apply Exists.intro); exact ⟨⟨i + 1, by omega, by go_num, NA, NR, No, NB⟩, rfl⟩)
        case measure => (simp [intOf] <;> omega)
    · obtain rfl : i = 256 := by omega
      have No := Fo.out
      rw [Nat.mod_eq_of_lt HN.out] at No
      clear Fo
      have Fo := Lib.hid No
      clear No
      have Lo := Fo.out.lt
      have co0 : wr.cell? ⟨go, 0, none⟩ = some (.int .u64 (wd (shN X n) 0 : Nat)) := Fo.out.cell 0
      have co1 : wr.cell? ⟨go, 1, none⟩ = some (.int .u64 (wd (shN X n) 1 : Nat)) := Fo.out.cell 1
      have co2 : wr.cell? ⟨go, 2, none⟩ = some (.int .u64 (wd (shN X n) 2 : Nat)) := Fo.out.cell 2
      have co3 : wr.cell? ⟨go, 3, none⟩ = some (.int .u64 (wd (shN X n) 3 : Nat)) := Fo.out.cell 3
      have Lr := Fr.out.lt
      have cr0 : wr.cell? ⟨gr, 0, none⟩ = some (.int .u64 0) := Fr.out.cell 0
      have cr1 : wr.cell? ⟨gr, 1, none⟩ = some (.int .u64 0) := Fr.out.cell 1
      have cr2 : wr.cell? ⟨gr, 2, none⟩ = some (.int .u64 0) := Fr.out.cell 2
      have cr3 : wr.cell? ⟨gr, 3, none⟩ = some (.int .u64 0) := Fr.out.cell 3
      have fr0 : wr.frozen? ⟨gr, 0, none⟩ = false := Fr.out.frozen 0
      have fr1 : wr.frozen? ⟨gr, 1, none⟩ = false := Fr.out.frozen 1
      have fr2 : wr.frozen? ⟨gr, 2, none⟩ = false := Fr.out.frozen 2
      have fr3 : wr.frozen? ⟨gr, 3, none⟩ = false := Fr.out.frozen 3
      go_wp2_with fail
      clear Lo co0 co1 co2 co3 Lr cr0 cr1 cr2 cr3 fr0 fr1 fr2 fr3
      have Nr_0 : At ((((wr.setCell ⟨gr, 0, none⟩ (.int .u64 (wd (shN X n) 0 : Nat))).setCell ⟨gr, 1, none⟩ (.int .u64 (wd (shN X n) 1 : Nat))).setCell ⟨gr, 2, none⟩ (.int .u64 (wd (shN X n) 2 : Nat))).setCell ⟨gr, 3, none⟩ (.int .u64 (wd (shN X n) 3 : Nat))) gr 24 #[.int .u64 (wd (shN X n) 0 : Nat), .int .u64 (wd (shN X n) 1 : Nat), .int .u64 (wd (shN X n) 2 : Nat), .int .u64 (wd (shN X n) 3 : Nat)] := (Fr.out).put4 _ _ _ _
      have No_0 : At ((((wr.setCell ⟨gr, 0, none⟩ (.int .u64 (wd (shN X n) 0 : Nat))).setCell ⟨gr, 1, none⟩ (.int .u64 (wd (shN X n) 1 : Nat))).setCell ⟨gr, 2, none⟩ (.int .u64 (wd (shN X n) 2 : Nat))).setCell ⟨gr, 3, none⟩ (.int .u64 (wd (shN X n) 3 : Nat))) go 24 #[.int .u64 (wd (shN X n) 0 : Nat), .int .u64 (wd (shN X n) 1 : Nat), .int .u64 (wd (shN X n) 2 : Nat), .int .u64 (wd (shN X n) 3 : Nat)] := (Fo.out).far4 Dro.symm _ _ _ _
      have NB_0 : Below w.heap.size w ((((wr.setCell ⟨gr, 0, none⟩ (.int .u64 (wd (shN X n) 0 : Nat))).setCell ⟨gr, 1, none⟩ (.int .u64 (wd (shN X n) 1 : Nat))).setCell ⟨gr, 2, none⟩ (.int .u64 (wd (shN X n) 2 : Nat))).setCell ⟨gr, 3, none⟩ (.int .u64 (wd (shN X n) 3 : Nat))) := ((((BW.out).setCell Er _).setCell Er _).setCell Er _).setCell Er _
      have Nr := Nr_0
      have No := No_0
      have NB := NB_0
      clear BW Fr Fo Nr_0 No_0 NB_0
      generalize ((((wr.setCell ⟨gr, 0, none⟩ (.int .u64 (wd (shN X n) 0 : Nat))).setCell ⟨gr, 1, none⟩ (.int .u64 (wd (shN X n) 1 : Nat))).setCell ⟨gr, 2, none⟩ (.int .u64 (wd (shN X n) 2 : Nat))).setCell ⟨gr, 3, none⟩ (.int .u64 (wd (shN X n) 3 : Nat))) = W61 at *
      have Fr := Lib.hid Nr
      have Fo := Lib.hid No
      have BW := Lib.hid NB
      clear NB Nr No
      have Lr := Fr.out.lt
      have cr0 : W61.cell? ⟨gr, 0, none⟩ = some (.int .u64 (wd (shN X n) 0 : Nat)) := Fr.out.cell 0
      have cr1 : W61.cell? ⟨gr, 1, none⟩ = some (.int .u64 (wd (shN X n) 1 : Nat)) := Fr.out.cell 1
      have cr2 : W61.cell? ⟨gr, 2, none⟩ = some (.int .u64 (wd (shN X n) 2 : Nat)) := Fr.out.cell 2
      have cr3 : W61.cell? ⟨gr, 3, none⟩ = some (.int .u64 (wd (shN X n) 3 : Nat)) := Fr.out.cell 3
      exact bodyPost_ret (v := num (shN X n)) (by simp [results, Try.results28, go_sem, *]) rfl ⟨rfl, BW.out⟩
end Go.Proofs.Ytgfgicpffajgdaa
