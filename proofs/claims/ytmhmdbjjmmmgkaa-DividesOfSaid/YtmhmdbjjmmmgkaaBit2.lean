/-
  limbs.Bit.
-/
import Derived.Test.YtmhmdbjjmmmgkaaBit
import Derived.Laws.BitsLemmas
namespace Go.Proofs.Ytmhmdbjjmmmgkaa
open Go.RowKit
set_option linter.unusedSimpArgs false
set_option linter.unusedVariables false
attribute [local go_sem ↓] Go.wp_at_zero Go.wp_at_succ

theorem and63 (n : Int) : bits .and .i64 n 63 = n % 64 := by
  have h63 : (BitVec.ofInt 64 63).toNat = 2 ^ 6 - 1 := by decide
  have key : (BitVec.ofInt 64 n &&& BitVec.ofInt 64 63).toNat = (n % ((2 ^ 64 : Nat) : Int)).toNat % 2 ^ 6 := by
    rw [BitVec.toNat_and, BitVec.toNat_ofInt, h63, Nat.and_two_pow_sub_one_eq_mod]
  show IntKind.i64.wrap ((BitVec.ofInt 64 n &&& BitVec.ofInt 64 63).toNat : Nat) = n % 64
  rw [key, IntKind.wrap_i64]
  omega
theorem and1 (a : Nat) (ha : a < 18446744073709551616) : bits .and .u64 (a : Int) 1 = ((a % 2 : Nat) : Int) := by
  have h := bits_and_u64_nat a 1 ha (by omega)
  have e : a &&& 1 = a % 2 := Nat.and_two_pow_sub_one_eq_mod a 1
  rw [e] at h
  exact h

/-- bit i of X, 0 where there is none -/
def bt (X : Nat) (i : Int) : Nat := if i < 0 then 0 else X / 2 ^ i.toNat % 2
theorem B_pow (q : Nat) : 18446744073709551616 ^ q = 2 ^ (64 * q) := by rw [Nat.pow_mul]
theorem wd_bit (X q j : Nat) (h : j < 64) : wd X q / 2 ^ j % 2 = X / 2 ^ (64 * q + j) % 2 := by
  unfold wd
  have e : (18446744073709551616 : Nat) = 2 ^ j * 2 ^ (64 - j) := by rw [← Nat.pow_add, show j + (64 - j) = 64 by omega]
  rw [B_pow]
  conv => lhs; arg 1; arg 1; arg 2; rw [e]
  rw [Nat.mod_mul_right_div_self, Nat.mod_mod_of_dvd _ (Nat.dvd_trans (by decide) (Nat.pow_dvd_pow 2 (show 1 ≤ 64 - j by omega))), Nat.div_div_eq_div_mul, ← Nat.pow_add]
theorem bt_wi (X j : Nat) (i : Int) (h : i % 64 = j) : wi X (i / 64) / 2 ^ j % 2 = bt X i := by
  unfold wi bt
  by_cases h0 : i < 0
  · rw [if_pos h0, if_pos (by omega)]; simp
  · rw [if_neg h0, if_neg (by omega), wd_bit X _ j (by omega)]
    congr 3
    omega
theorem wi_lt (X : Nat) (i : Int) : wi X i < 18446744073709551616 := by
  unfold wi; split
  · omega
  · exact wd_lt _ _

theorem bit_any (X : Nat) (hX : X < 2 ^ 256) (i : Int) (w : World) : Calls Try.prog 62 #[num X, .int .i64 i] w fun e w' => e = .returned (.int .u64 (bt X i : Nat)) ∧ Below w.heap.size w w' := by
  go_enter Try.func62, Try.ntmps62
  go_wp2_with fail
  refine (word_any X hX (i / 64) _).mono ?_
  rintro e w1 ⟨rfl, rfl⟩
  have h1 := and63 i
  obtain ⟨j, hj⟩ : ∃ j : Nat, i % 64 = j := ⟨(i % 64).toNat, by omega⟩
  have hj' : j < 64 := by omega
  have hb := bt_wi X j i hj
  have hl := wi_lt X (i / 64)
  rw [hj] at h1
  generalize wi X (i / 64) = x at *
  have hd : bits .and .u64 ((x : Int) / 2 ^ j) 1 = (bt X i : Nat) := by
    have e : (x : Int) / 2 ^ j = ((x / 2 ^ j : Nat) : Int) := by simp
    rw [e, and1 _ (Nat.lt_of_le_of_lt (Nat.div_le_self _ _) hl), hb]
  clear hb hl hj
  go_wp2
  go_ret
  exact ⟨rfl, by repeat (first | exact Below.refl _ _ | refine gr_alloc ?_ _ | refine Below.drew ?_ | refine gr_drewN ?_ _ | refine bel_tr ?_ (by assumption))⟩
end Go.Proofs.Ytmhmdbjjmmmgkaa
