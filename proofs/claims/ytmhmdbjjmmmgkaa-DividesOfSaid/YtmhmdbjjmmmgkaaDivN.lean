/-
  One digit of a division of two digits by two (to the base 2^32), as math/bits.Div64 reckons it: a first guess, lowered till it fits. Nothing here speaks of the program.
-/
import Derived.Test.YtmhmdbjjmmmgkaaNum
namespace Go.Proofs.Ytmhmdbjjmmmgkaa
set_option linter.unusedSimpArgs false
set_option linter.unusedVariables false

/-- the guess fits -/
theorem kn_le (u d q r y1 y0 : Nat) (hr : u = q * y1 + r) (hq : q * y0 ≤ 4294967296 * r + d) : q * (y1 * 4294967296 + y0) ≤ u * 4294967296 + d := by
  rw [hr, Nat.mul_add, ← Nat.mul_assoc]
  generalize q * y1 = m
  generalize q * y0 = k at *
  omega
/-- the guess is too great -/
theorem kn_gt (u d q r y1 y0 : Nat) (hr : u = q * y1 + r) (hq : 4294967296 * r + d < q * y0) : u * 4294967296 + d < q * (y1 * 4294967296 + y0) := by
  rw [hr, Nat.mul_add, ← Nat.mul_assoc]
  generalize q * y1 = m
  generalize q * y0 = k at *
  omega
theorem kn_small (u d y : Nat) (hd : d < 4294967296) (hu : u < y) : (u * 4294967296 + d) / y < 4294967296 := by
  refine Nat.div_lt_of_lt_mul ?_
  have : (u + 1) * 4294967296 ≤ y * 4294967296 := Nat.mul_le_mul_right _ hu
  rw [Nat.add_mul] at this; omega
/-- the first guess is not too small, and at most one above 2^32 -/
theorem kn_first (u d y1 y0 : Nat) (h1 : 2147483648 ≤ y1) (h0 : y0 < 4294967296) (hd : d < 4294967296) (hu : u < y1 * 4294967296 + y0) : (u * 4294967296 + d) / (y1 * 4294967296 + y0) ≤ u / y1 ∧ u / y1 ≤ 4294967297 := by
  have hy1 : 0 < y1 := by omega
  refine ⟨?_, ?_⟩
  · have hle : (u * 4294967296 + d) / (y1 * 4294967296 + y0) ≤ (u * 4294967296 + d) / (y1 * 4294967296) := Nat.div_le_div_left (by omega) (by omega)
    refine Nat.le_trans hle ?_
    rw [Nat.mul_comm y1, ← Nat.div_div_eq_div_mul]
    refine Nat.div_le_div_right ?_
    omega
  · rw [Nat.div_le_iff_le_mul_add_pred hy1]
    omega
/-- a round of the loop: where it goes on, the guess is above the digit -/
theorem kn_down (u d q r y1 y0 : Nat) (hd : d < 4294967296) (hu : u < y1 * 4294967296 + y0) (hr : u = q * y1 + r) (h : 4294967296 ≤ q ∨ 4294967296 * r + d < q * y0) : (u * 4294967296 + d) / (y1 * 4294967296 + y0) < q := by
  rcases h with h | h
  · exact Nat.lt_of_lt_of_le (kn_small u d _ hd hu) h
  · have := kn_gt u d q r y1 y0 hr h
    exact Nat.div_lt_of_lt_mul (Nat.lt_of_lt_of_eq this (Nat.mul_comm _ _))
/-- where it ends, the guess is the digit -/
theorem kn_end (u d q r y1 y0 : Nat) (hy : 0 < y1 * 4294967296 + y0) (hr : u = q * y1 + r) (hq : q * y0 ≤ 4294967296 * r + d) (hge : (u * 4294967296 + d) / (y1 * 4294967296 + y0) ≤ q) : q = (u * 4294967296 + d) / (y1 * 4294967296 + y0) := by
  have := kn_le u d q r y1 y0 hr hq
  have h2 : q ≤ (u * 4294967296 + d) / (y1 * 4294967296 + y0) := (Nat.le_div_iff_mul_le hy).2 this
  omega
/-- where the rest is 2^32 or more, the guess is the digit -/
theorem kn_over (u d q r y1 y0 : Nat) (hy : 0 < y1 * 4294967296 + y0) (h0 : y0 < 4294967296) (hr : u = q * y1 + r) (hq : q ≤ 4294967296) (hro : 4294967296 ≤ r) (hge : (u * 4294967296 + d) / (y1 * 4294967296 + y0) ≤ q) : q = (u * 4294967296 + d) / (y1 * 4294967296 + y0) := by
  refine kn_end u d q r y1 y0 hy hr ?_ hge
  have : q * y0 ≤ 4294967296 * 4294967296 := Nat.mul_le_mul hq (by omega)
  omega
end Go.Proofs.Ytmhmdbjjmmmgkaa
