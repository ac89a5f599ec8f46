/-
  limbs.Shift: what it answers, as a number.
-/
import Derived.Test.YtmhmdbjjmmmgkaaShift
namespace Go.Proofs.Ytmhmdbjjmmmgkaa
open Go.RowKit
set_option linter.unusedSimpArgs false
set_option linter.unusedVariables false

/-- a number, n places higher -/
def shN (X : Nat) (n : Int) : Nat := if 0 ≤ n then X * 2 ^ n.toNat % 2 ^ 256 else X / 2 ^ (-n).toNat
/-- bit k of X, none below 0 -/
def tb (X : Nat) (k : Int) : Bool := decide (0 ≤ k) && X.testBit k.toNat

theorem wd_tb (X i j : Nat) : (wd X i).testBit j = (decide (j < 64) && X.testBit (64 * i + j)) := by
  unfold wd
  rw [B_pow, show (18446744073709551616 : Nat) = 2 ^ 64 by decide, Nat.testBit_mod_two_pow, Nat.testBit_div_two_pow]
  rw [Nat.add_comm]
theorem wi_tb (X : Nat) (y : Int) (j : Nat) : (wi X y).testBit j = (decide (j < 64) && tb X (64 * y + j)) := by
  unfold wi tb
  by_cases h : y < 0
  · rw [if_pos h, Nat.zero_testBit]
    by_cases hj : j < 64
    · have : ¬ 0 ≤ 64 * y + (j : Int) := by omega
      simp [this]
    · simp [hj]
  · rw [if_neg h, wd_tb]
    by_cases hj : j < 64
    · have h1 : 0 ≤ 64 * y + (j : Int) := by omega
      have h2 : 64 * y.toNat + j = (64 * y + (j : Int)).toNat := by omega
      simp [h1, h2]
    · simp [hj]
theorem sh_tb (X : Nat) (hX : X < 2 ^ 256) (n : Int) (m : Nat) : (shN X n).testBit m = (decide (m < 256) && tb X (m - n)) := by
  unfold shN tb
  by_cases h : 0 ≤ n
  · rw [if_pos h, Nat.testBit_mod_two_pow, Nat.testBit_mul_two_pow]
    by_cases h1 : n.toNat ≤ m
    · have h2 : 0 ≤ (m : Int) - n := by omega
      have h3 : ((m : Int) - n).toNat = m - n.toNat := by omega
      rw [decide_eq_true h2, decide_eq_true h1, h3]
    · have h2 : ¬ 0 ≤ (m : Int) - n := by omega
      rw [decide_eq_false h2, decide_eq_false h1]; simp
  · rw [if_neg h, Nat.testBit_div_two_pow]
    have h2 : 0 ≤ (m : Int) - n := by omega
    have h3 : ((m : Int) - n).toNat = m + (-n).toNat := by omega
    by_cases h1 : m < 256
    · rw [decide_eq_true h2, decide_eq_true h1, h3]; simp
    · have h4 : X.testBit (m + (-n).toNat) = false := Nat.testBit_lt_two_pow (Nat.lt_of_lt_of_le hX (Nat.pow_le_pow_right (by decide) (by omega)))
      simp [h1, h4]
theorem sh_lt (X : Nat) (hX : X < 2 ^ 256) (n : Int) : shN X n < 2 ^ 256 := by
  unfold shN
  split
  · exact Nat.mod_lt _ (by decide)
  · exact Nat.lt_of_le_of_lt (Nat.div_le_self _ _) hX

theorem word_sh (X : Nat) (hX : X < 2 ^ 256) (n q : Int) (p r k : Nat) (y y' : Int) (hk : k < 4) (hn : n = 64 * q + p) (hp : p < 64) (hr : r = 64 - p) (hy : y = k - q) (hy' : y' = k - q - 1) :
    bits .or .u64 (IntKind.u64.wrap ((wi X y : Nat) * 2 ^ p)) ((wi X y' : Nat) / 2 ^ r) = (wd (shN X n) k : Nat) := by
  have e1 : IntKind.u64.wrap ((wi X y : Nat) * 2 ^ p) = ((wi X y * 2 ^ p % 2 ^ 64 : Nat) : Int) := by
    rw [IntKind.wrap_u64]; simp
  have e2 : ((wi X y' : Nat) : Int) / 2 ^ r = ((wi X y' / 2 ^ r : Nat) : Int) := by simp
  rw [e1, e2, bits_or_u64_nat _ _ (Nat.mod_lt _ (by decide)) (Nat.lt_of_le_of_lt (Nat.div_le_self _ _) (wi_lt _ _))]
  congr 1
  refine Nat.eq_of_testBit_eq fun j => ?_
  rw [Nat.testBit_or, show (18446744073709551616 : Nat) = 2 ^ 64 by decide, Nat.testBit_mod_two_pow, Nat.testBit_mul_two_pow, Nat.testBit_div_two_pow, wi_tb, wi_tb, wd_tb, sh_tb X hX]
  by_cases hj : j < 64
  · have h256 : 64 * k + j < 256 := by omega
    by_cases hpj : p ≤ j
    · have g1 : j - p < 64 := by omega
      have g2 : ¬ j + r < 64 := by omega
      have g3 : 64 * y + ((j - p : Nat) : Int) = ((64 * k + j : Nat) : Int) - n := by omega
      simp only [hj, hpj, g1, g2, g3, h256]; simp
    · have g2 : j + r < 64 := by omega
      have g3 : 64 * y' + ((j + r : Nat) : Int) = ((64 * k + j : Nat) : Int) - n := by omega
      simp only [hj, hpj, g2, g3, h256]; simp
  · have g2 : ¬ j + r < 64 := by omega
    simp [hj, g2]

/-- limbs.Shift -/
theorem shift_any (X : Nat) (hX : X < 2 ^ 256) (n : Int) (hn : -9223372036854775808 ≤ n) (hn' : n ≤ 9223372036854775807) (w : World) :
    Calls Try.prog 59 #[num X, .int .i64 n] w fun e w' => e = .returned (num (shN X n)) ∧ Below w.heap.size w w' := by
  obtain ⟨p, hp⟩ : ∃ p : Nat, n % 64 = p := ⟨(n % 64).toNat, by omega⟩
  have e : n = 64 * (n / 64) + p := by omega
  have wr : ∀ x : Int, -9223372036854775808 ≤ x → x ≤ 9223372036854775807 → IntKind.i64.wrap x = x := fun x h1 h2 => by rw [IntKind.wrap_i64]; omega
  refine shift_words X hX n (n / 64) (0 - n / 64 - 1) (0 - n / 64) (1 - n / 64) (2 - n / 64) (3 - n / 64) p (64 - p) rfl (by rw [and63, hp]) (by omega) (by rw [wr _ (by omega) (by omega)]; omega) (by omega)
    (by rw [wr _ (by omega) (by omega)]; omega) (wr _ (by omega) (by omega)) (wr _ (by omega) (by omega)) (wr _ (by omega) (by omega))
    (wr _ (by omega) (by omega)) (by rw [wr _ (by omega) (by omega)]; omega) (by rw [wr _ (by omega) (by omega)]; omega) (by rw [wr _ (by omega) (by omega)]; omega) _ _ _ _
    (word_sh X hX n _ p _ 0 _ _ (by omega) e (by omega) rfl (by omega) (by omega)) (word_sh X hX n _ p _ 1 _ _ (by omega) e (by omega) rfl (by omega) (by omega))
    (word_sh X hX n _ p _ 2 _ _ (by omega) e (by omega) rfl (by omega) (by omega)) (word_sh X hX n _ p _ 3 _ _ (by omega) e (by omega) rfl (by omega) (by omega)) w
end Go.Proofs.Ytmhmdbjjmmmgkaa
