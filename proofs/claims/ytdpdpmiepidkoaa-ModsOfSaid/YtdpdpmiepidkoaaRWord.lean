import Derived.Test.YtdpdpmiepidkoaaRTwice
/-
  balefireref03.Word: is it one of 64 bits?
-/
namespace Go.Proofs.Ytdpdpmiepidkoaa
open Go.RowKit
set_option linter.unusedSimpArgs false
set_option linter.unusedVariables false
attribute [local go_sem ↓] Go.wp_at_zero Go.wp_at_succ

theorem word_yes (a : Nat) (w : World) : Calls Try.prog 26 #[.agg #[.int .u64 a, .int .u64 0, .int .u64 0, .int .u64 0]] w fun e w' => e = .returned (.bool true) ∧ Below w.heap.size w w' := by
  go_enter Try.func26, Try.ntmps26
  go_wp2
  go_ret
  exact ⟨rfl, by repeat (first | exact Below.refl _ _ | refine gr_alloc ?_ _ | refine Below.drew ?_)⟩
theorem word_no1 (a b c d : Nat) (h : b ≠ 0) (w : World) : Calls Try.prog 26 #[.agg #[.int .u64 a, .int .u64 b, .int .u64 c, .int .u64 d]] w fun e w' => e = .returned (.bool false) ∧ Below w.heap.size w w' := by
  have h1 : ((b : Int) == 0) = false := by simp; omega
  have h2 : decide ((b : Int) = 0) = false := by simp; omega
  have h3 : ¬ (b : Int) = 0 := by omega
  go_enter Try.func26, Try.ntmps26
  go_wp2
  go_ret
  exact ⟨rfl, by repeat (first | exact Below.refl _ _ | refine gr_alloc ?_ _ | refine Below.drew ?_)⟩
theorem word_no2 (a c d : Nat) (h : c ≠ 0) (w : World) : Calls Try.prog 26 #[.agg #[.int .u64 a, .int .u64 0, .int .u64 c, .int .u64 d]] w fun e w' => e = .returned (.bool false) ∧ Below w.heap.size w w' := by
  have h1 : ((c : Int) == 0) = false := by simp; omega
  have h2 : decide ((c : Int) = 0) = false := by simp; omega
  have h3 : ¬ (c : Int) = 0 := by omega
  go_enter Try.func26, Try.ntmps26
  go_wp2
  go_ret
  exact ⟨rfl, by repeat (first | exact Below.refl _ _ | refine gr_alloc ?_ _ | refine Below.drew ?_)⟩
theorem word_no3 (a d : Nat) (h : d ≠ 0) (w : World) : Calls Try.prog 26 #[.agg #[.int .u64 a, .int .u64 0, .int .u64 0, .int .u64 d]] w fun e w' => e = .returned (.bool false) ∧ Below w.heap.size w w' := by
  have h1 : ((d : Int) == 0) = false := by simp; omega
  have h2 : decide ((d : Int) = 0) = false := by simp; omega
  have h3 : ¬ (d : Int) = 0 := by omega
  go_enter Try.func26, Try.ntmps26
  go_wp2
  go_ret
  exact ⟨rfl, by repeat (first | exact Below.refl _ _ | refine gr_alloc ?_ _ | refine Below.drew ?_)⟩
/-- is it one of 64 bits? -/
theorem rword_any (X : Nat) (hX : X < 2 ^ 256) (w : World) : Calls Try.prog 26 #[num X] w fun e w' => e = .returned (.bool (decide (X < 18446744073709551616))) ∧ Below w.heap.size w w' := by
  have hs := wd_sum X hX
  unfold num
  by_cases h1 : wd X 1 = 0
  · by_cases h2 : wd X 2 = 0
    · by_cases h3 : wd X 3 = 0
      · have hl := wd_lt X 0
        rw [h1, h2, h3, decide_eq_true (show X < 18446744073709551616 by omega)]
        exact word_yes _ w
      · rw [h1, h2, decide_eq_false (show ¬ X < 18446744073709551616 by omega)]
        exact word_no3 _ _ h3 w
    · rw [h1, decide_eq_false (show ¬ X < 18446744073709551616 by omega)]
      exact word_no2 _ _ _ h2 w
  · rw [decide_eq_false (show ¬ X < 18446744073709551616 by omega)]
    exact word_no1 _ _ _ _ h1 w
end Go.Proofs.Ytdpdpmiepidkoaa
