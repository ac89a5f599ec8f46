/-
  balefireref02.Bit.
-/
import Derived.Test.YtmhmdbjjmmmgkaaDigits
import Derived.Test.YtmhmdbjjmmmgkaaShiftN
namespace Go.Proofs.Ytmhmdbjjmmmgkaa
open Go.RowKit
set_option linter.unusedSimpArgs false
set_option linter.unusedVariables false
attribute [local go_sem ↓] Go.wp_at_zero Go.wp_at_succ

theorem digitsA (X : Nat) (w : World) : Calls Try.prog 64 #[num X] w fun e w' => e = .returned (.agg #[.int .u64 (dg X 0 : Nat), .int .u64 (dg X 1 : Nat), .int .u64 (dg X 2 : Nat), .int .u64 (dg X 3 : Nat), .int .u64 (dg X 4 : Nat), .int .u64 (dg X 5 : Nat), .int .u64 (dg X 6 : Nat), .int .u64 (dg X 7 : Nat), .int .u64 (dg X 8 : Nat), .int .u64 (dg X 9 : Nat), .int .u64 (dg X 10 : Nat), .int .u64 (dg X 11 : Nat), .int .u64 (dg X 12 : Nat), .int .u64 (dg X 13 : Nat), .int .u64 (dg X 14 : Nat), .int .u64 (dg X 15 : Nat)]) ∧ Below w.heap.size w w' := digits_any X w
theorem arr_at (X q : Nat) (h : q < 16) : (#[.int .u64 (dg X 0 : Nat), .int .u64 (dg X 1 : Nat), .int .u64 (dg X 2 : Nat), .int .u64 (dg X 3 : Nat), .int .u64 (dg X 4 : Nat), .int .u64 (dg X 5 : Nat), .int .u64 (dg X 6 : Nat), .int .u64 (dg X 7 : Nat), .int .u64 (dg X 8 : Nat), .int .u64 (dg X 9 : Nat), .int .u64 (dg X 10 : Nat), .int .u64 (dg X 11 : Nat), .int .u64 (dg X 12 : Nat), .int .u64 (dg X 13 : Nat), .int .u64 (dg X 14 : Nat), .int .u64 (dg X 15 : Nat)] : Array Value)[q]? = some (.int .u64 (dg X q : Nat)) := by
  have := ws_at (ds X) q h
  rw [ds_at X q h] at this
  exact this
theorem lst_at (X q : Nat) (h : q < 16) (h' : q < ([.int .u64 (dg X 0 : Nat), .int .u64 (dg X 1 : Nat), .int .u64 (dg X 2 : Nat), .int .u64 (dg X 3 : Nat), .int .u64 (dg X 4 : Nat), .int .u64 (dg X 5 : Nat), .int .u64 (dg X 6 : Nat), .int .u64 (dg X 7 : Nat), .int .u64 (dg X 8 : Nat), .int .u64 (dg X 9 : Nat), .int .u64 (dg X 10 : Nat), .int .u64 (dg X 11 : Nat), .int .u64 (dg X 12 : Nat), .int .u64 (dg X 13 : Nat), .int .u64 (dg X 14 : Nat), .int .u64 (dg X 15 : Nat)] : List Value).length) : ([.int .u64 (dg X 0 : Nat), .int .u64 (dg X 1 : Nat), .int .u64 (dg X 2 : Nat), .int .u64 (dg X 3 : Nat), .int .u64 (dg X 4 : Nat), .int .u64 (dg X 5 : Nat), .int .u64 (dg X 6 : Nat), .int .u64 (dg X 7 : Nat), .int .u64 (dg X 8 : Nat), .int .u64 (dg X 9 : Nat), .int .u64 (dg X 10 : Nat), .int .u64 (dg X 11 : Nat), .int .u64 (dg X 12 : Nat), .int .u64 (dg X 13 : Nat), .int .u64 (dg X 14 : Nat), .int .u64 (dg X 15 : Nat)] : List Value)[q]'h' = .int .u64 (dg X q : Nat) := by
  have := arr_at X q h
  simp only [List.getElem?_toArray, List.getElem?_eq_getElem h', Option.some.injEq] at this
  exact this
theorem dg_bit (X q r : Nat) (h : r < 16) : dg X q / 2 ^ r % 2 = X / 2 ^ (16 * q + r) % 2 := by
  unfold dg
  have e : (65536 : Nat) = 2 ^ r * 2 ^ (16 - r) := by rw [← Nat.pow_add, show r + (16 - r) = 16 by omega]
  have e2 : (65536 : Nat) ^ q = 2 ^ (16 * q) := by rw [Nat.pow_mul]
  rw [e2]
  conv => lhs; arg 1; arg 1; arg 2; rw [e]
  rw [Nat.mod_mul_right_div_self, Nat.mod_mod_of_dvd _ (Nat.dvd_trans (by decide) (Nat.pow_dvd_pow 2 (show 1 ≤ 16 - r by omega))), Nat.div_div_eq_div_mul, ← Nat.pow_add]

set_option maxRecDepth 100000 in
set_option maxHeartbeats 4000000 in
/-- the document's Bit -/
theorem rbit_any (X : Nat) (hX : X < 2 ^ 256) (i : Int) (w : World) : Calls Try.prog 37 #[num X, .int .i64 i] w fun e w' => e = .returned (.int .u64 (bt X i : Nat)) ∧ Below w.heap.size w w' := by
  by_cases h0 : i < 0
  · have e : bt X i = 0 := by unfold bt; rw [if_pos h0]
    rw [e]
    go_enter Try.func37, Try.ntmps37
    go_wp2
    go_ret
    exact ⟨rfl, by repeat (first | exact Below.refl _ _ | refine gr_alloc ?_ _ | refine Below.drew ?_ | refine gr_drewN ?_ _)⟩
  by_cases h1 : 255 < i
  · have e : bt X i = 0 := by
      unfold bt
      rw [if_neg h0, Nat.div_eq_of_lt (Nat.lt_of_lt_of_le hX (Nat.pow_le_pow_right (by decide) (by omega)))]
    rw [e]
    have h0' : decide (i < 0) = false := by simp; omega
    go_enter Try.func37, Try.ntmps37
    go_wp2
    go_ret
    exact ⟨rfl, by repeat (first | exact Below.refl _ _ | refine gr_alloc ?_ _ | refine Below.drew ?_ | refine gr_drewN ?_ _)⟩
  obtain ⟨n, rfl⟩ : ∃ n : Nat, i = n := ⟨i.toNat, by omega⟩
  have h0' : decide ((n : Int) < 0) = false := by simp
  have h1' : decide ((255 : Int) < (n : Int)) = false := by simp; omega
  obtain ⟨q, hq⟩ : ∃ q, q = n / 16 := ⟨_, rfl⟩
  obtain ⟨r, hr⟩ : ∃ r, r = n % 16 := ⟨_, rfl⟩
  have r1 : ((n : Int) / 16) = (q : Nat) := by omega
  have r2 : ((n : Int) % 16) = (r : Nat) := by omega
  have r3 : (q : Int) < 16 := by omega
  have r4 : r < 16 := by omega
  have r5 : q < 16 := by omega
  have ha := lst_at X q r5 (by simpa using r5)
  have r6 : (((dg X q : Nat) : Int) / 2 ^ r).tmod 2 = (bt X (n : Int) : Nat) := by
    have e1 : ((dg X q : Nat) : Int) / 2 ^ r = ((dg X q / 2 ^ r : Nat) : Int) := by simp
    have e2 : bt X (n : Int) = dg X q / 2 ^ r % 2 := by
      rw [dg_bit X q r r4]
      unfold bt
      rw [if_neg (by omega), Int.toNat_natCast, show 16 * q + r = n by omega]
    rw [e1, e2, Int.tmod_eq_emod_of_nonneg (Int.natCast_nonneg _)]; simp
  clear hq hr h0 h1
  go_enter Try.func37, Try.ntmps37
  go_wp2_with fail
  refine (digitsA X _).mono ?_
  rintro e w1 ⟨rfl, z1⟩
  go_wp2
  go_ret
  exact ⟨rfl, by repeat (first | exact Below.refl _ _ | refine gr_alloc ?_ _ | refine Below.drew ?_ | refine gr_drewN ?_ _ | refine bel_tr ?_ (by assumption))⟩
end Go.Proofs.Ytmhmdbjjmmmgkaa
