/-
  limbs.word, limbs.Bit.
-/
import Derived.Test.YtmhmdbjjmmmgkaaCmp
namespace Go.Proofs.Ytmhmdbjjmmmgkaa
open Go.RowKit
set_option linter.unusedSimpArgs false
set_option linter.unusedVariables false
attribute [local go_sem ↓] Go.wp_at_zero Go.wp_at_succ

/-- limbs.word: there is none -/
theorem word_none (X : Nat) (i : Int) (h : i < 0 ∨ 4 ≤ i) (w : World) : Calls Try.prog 73 #[num X, .int .i64 i] w fun e w' => e = .returned (.int .u64 0) ∧ w' = w.alloc (.cells #[.int .u64 (wd X 0 : Nat), .int .u64 (wd X 1 : Nat), .int .u64 (wd X 2 : Nat), .int .u64 (wd X 3 : Nat)] 24) := by
  by_cases h0 : i < 0
  · go_enter Try.func73, Try.ntmps73
    go_wp2
    go_ret
    exact ⟨rfl, rfl⟩
  · have h1 : 4 ≤ i := by omega
    have h2 : ¬ i < 0 := h0
    go_enter Try.func73, Try.ntmps73
    go_wp2
    go_ret
    exact ⟨rfl, rfl⟩

/-- limbs.word -/
theorem word_one (X : Nat) (i : Nat) (h : i < 4) (w : World) : Calls Try.prog 73 #[num X, .int .i64 (i : Int)] w fun e w' => e = .returned (.int .u64 (wd X i : Nat)) ∧ w' = w.alloc (.cells #[.int .u64 (wd X 0 : Nat), .int .u64 (wd X 1 : Nat), .int .u64 (wd X 2 : Nat), .int .u64 (wd X 3 : Nat)] 24) := by
  match i, h with
  | 0, _ | 1, _ | 2, _ | 3, _ =>
    go_enter Try.func73, Try.ntmps73
    go_wp2
    go_ret
    exact ⟨rfl, rfl⟩

/-- word i of X, 0 where there is none -/
def wi (X : Nat) (i : Int) : Nat := if i < 0 then 0 else wd X i.toNat
theorem word_any (X : Nat) (hX : X < 2 ^ 256) (i : Int) (w : World) : Calls Try.prog 73 #[num X, .int .i64 i] w fun e w' => e = .returned (.int .u64 (wi X i : Nat)) ∧ w' = w.alloc (.cells #[.int .u64 (wd X 0 : Nat), .int .u64 (wd X 1 : Nat), .int .u64 (wd X 2 : Nat), .int .u64 (wd X 3 : Nat)] 24) := by
  unfold wi
  by_cases h0 : i < 0
  · rw [if_pos h0]; exact word_none X i (Or.inl h0) w
  rw [if_neg h0]
  obtain ⟨n, rfl⟩ : ∃ n : Nat, i = n := ⟨i.toNat, by omega⟩
  by_cases h4 : n < 4
  · exact word_one X n h4 w
  · have e : wd X (n : Int).toNat = 0 := by
      have h : X < 18446744073709551616 ^ n := Nat.lt_of_lt_of_le (show X < 18446744073709551616 ^ 4 by omega) (Nat.pow_le_pow_right (by decide) (by omega))
      unfold wd
      rw [Int.toNat_natCast, Nat.div_eq_of_lt h]
    rw [e]; exact word_none X n (Or.inr (by omega)) w
end Go.Proofs.Ytmhmdbjjmmmgkaa
