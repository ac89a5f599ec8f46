/-
  The numbers behind LimbsBits.
-/
import Derived.Test.YtmhmdbjjmmmgkaaShiftN
namespace Go.Proofs.Ytmhmdbjjmmmgkaa
open Go.RowKit
set_option linter.unusedSimpArgs false
set_option linter.unusedVariables false

theorem bl_spec (X : Nat) : X < 2 ^ Go.bitLen X ∧ (X ≠ 0 → 2 ^ (Go.bitLen X - 1) ≤ X) := Go.bitLen_spec X
theorem bl_le (X : Nat) (hX : X < 2 ^ 256) : Go.bitLen X ≤ 256 := by
  by_cases h0 : X = 0
  · subst h0; decide
  · unfold Go.bitLen
    rw [if_neg h0]
    have := (Nat.log2_lt h0).2 hX
    omega
/-- above its highest bit a number has none -/
theorem bl_bit (X i : Nat) (h : bt X (i : Int) = 1) : i < Go.bitLen X := by
  rw [bt_tb] at h
  by_cases ht : X.testBit i
  · by_cases hi : i < Go.bitLen X
    · exact hi
    · have := Nat.testBit_lt_two_pow (Nat.lt_of_lt_of_le (bl_spec X).1 (Nat.pow_le_pow_right (by decide) (show Go.bitLen X ≤ i by omega)))
      rw [this] at ht; cases ht
  · simp [ht] at h
theorem bl_top (X : Nat) (h : Go.bitLen X ≠ 0) : bt X ((Go.bitLen X - 1 : Nat) : Int) = 1 := by
  have h0 : X ≠ 0 := by intro e; subst e; exact h (by decide)
  have h1 := (bl_spec X).1
  have h2 := (bl_spec X).2 h0
  generalize Go.bitLen X = n at *
  unfold bt
  rw [if_neg (by omega), Int.toNat_natCast]
  have h3 : X / 2 ^ (n - 1) < 2 := by
    refine Nat.div_lt_of_lt_mul ?_
    have e : 2 ^ (n - 1) * 2 = 2 ^ n := by rw [← Nat.pow_succ]; congr 1; omega
    rw [e]; exact h1
  have h4 : 1 ≤ X / 2 ^ (n - 1) := (Nat.one_le_div_iff (Nat.two_pow_pos _)).2 h2
  omega
theorem bl_lt (X Y : Nat) (h : Go.bitLen X < Go.bitLen Y) : X < Y := by
  have h1 := (bl_spec X).1
  have h0 : Y ≠ 0 := by intro e; subst e; exact absurd h (by rw [show Go.bitLen 0 = 0 by decide]; omega)
  have h2 := (bl_spec Y).2 h0
  exact Nat.lt_of_lt_of_le h1 (Nat.le_trans (Nat.pow_le_pow_right (by decide) (by omega)) h2)
/-- one bit more -/
theorem sum_bit (X i : Nat) (hX : X < 2 ^ 256) (hi : i < 256) : X % 2 ^ (i + 1) = X % 2 ^ i + 2 ^ i * bt X (i : Int) ∧ X % 2 ^ i + 2 ^ i < 2 ^ 256 ∧ shN 1 (i : Int) = 2 ^ i := by
  have hp : (2 : Nat) ^ i * 2 ≤ 2 ^ 256 := by rw [← Nat.pow_succ]; exact Nat.pow_le_pow_right (by decide) (by omega)
  have hm : X % 2 ^ i < 2 ^ i := Nat.mod_lt _ (Nat.two_pow_pos _)
  refine ⟨?_, by omega, ?_⟩
  · unfold bt
    rw [if_neg (by omega), Int.toNat_natCast, Nat.mod_pow_succ]
  · rw [shN_left 1 i hi, Nat.one_mul, Nat.mod_eq_of_lt (Nat.pow_lt_pow_right (by decide) hi)]
end Go.Proofs.Ytmhmdbjjmmmgkaa
