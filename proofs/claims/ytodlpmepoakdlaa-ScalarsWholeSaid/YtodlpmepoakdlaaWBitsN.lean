/-
  limbs.Bits.
-/
import Derived.Laws.MathBits
import Derived.Test.YtodlpmepoakdlaaWLen
namespace Go.Proofs.Ytodlpmepoakdlaa
set_option maxRecDepth 100000
open Go.RowKit
set_option linter.unusedSimpArgs false
set_option linter.unusedVariables false
attribute [local go_sem ↓] Go.wp_at_zero Go.wp_at_succ

theorem bitLen_same : ∀ x : Nat, x < 2 ^ 64 → Lib.bitLen x = Go.bitLen x := by
  intro x
  induction x using Nat.strongRecOn with
  | _ x ih =>
    intro hx
    by_cases h0 : x = 0
    · subst h0; decide
    · rw [Lib.bitLen_half x h0 hx, ih (x / 2) (by omega) (by omega)]
      by_cases h1 : x / 2 = 0
      · have : x = 1 := by omega
        subst this; decide
      · have := Go.bitLen_shift x 1 (by simpa using h1)
        simpa using this.symm

theorem bl_word (X j : Nat) (hj : j < 4) (hX : X / 18446744073709551616 ^ (j + 1) = 0) (h : wd X j ≠ 0) : (64 * j + Lib.bitLen (wd X j) : Nat) = Go.bitLen X := by
  have e : wd X j = X / 2 ^ (64 * j) := by
    unfold wd
    rw [B_pow] at *
    refine Nat.mod_eq_of_lt ?_
    have : X / 2 ^ (64 * j) / 18446744073709551616 = 0 := by
      rw [Nat.div_div_eq_div_mul, show (18446744073709551616 : Nat) = 2 ^ 64 by decide, ← Nat.pow_add]
      exact hX
    omega
  rw [bitLen_same _ (by have := wd_lt X j; omega), e, ← Go.bitLen_shift X (64 * j) (by rw [← e]; exact h)]

theorem bits_3 (a0 a1 a2 a3 : Nat) (w : World) (h : a3 ≠ 0) (hl : a3 < 18446744073709551616) :
    Calls Try.prog 43 #[.agg #[.int .u64 a0, .int .u64 a1, .int .u64 a2, .int .u64 a3]] w fun e w' => e = .returned (.int .i64 ((192 + Lib.bitLen a3 : Nat) : Int)) ∧ Below w.heap.size w w' := by
  have C := fun w => len64 (a3 : Int) (by omega) (by omega) w
  simp only [Int.toNat_natCast] at C
  have hne : ((a3 : Int) != 0) = true := by simp; omega
  have hr : Lib.bitLen a3 ≤ 64 := by
    rw [bitLen_same _ (by omega)]
    unfold Go.bitLen
    split
    · omega
    · have := (Nat.log2_lt h).2 (show a3 < 2 ^ 64 by omega); omega
  generalize Lib.bitLen a3 = t at *
  go_enter Try.func43, Try.ntmps43
  go_wp2
  refine wp_loop_rounds 6 ?_
  rw [rounds_succ]
  go_wp2_with (refine (C _).mono ?_; rintro e w1 ⟨rfl, rfl⟩)
  go_ret
  exact ⟨congrArg Ending.returned (congrArg (Value.int IntKind.i64) (by go_num)), by repeat (first | exact Below.refl _ _ | refine gr_alloc ?_ _ | refine Below.drew ?_ | refine gr_drewN ?_ _ | refine bel_tr ?_ (by assumption))⟩

theorem bits_2 (a0 a1 a2 : Nat) (w : World) (h : a2 ≠ 0) (hl : a2 < 18446744073709551616) :
    Calls Try.prog 43 #[.agg #[.int .u64 a0, .int .u64 a1, .int .u64 a2, .int .u64 0]] w fun e w' => e = .returned (.int .i64 ((128 + Lib.bitLen a2 : Nat) : Int)) ∧ Below w.heap.size w w' := by
  have C := fun w => len64 (a2 : Int) (by omega) (by omega) w
  simp only [Int.toNat_natCast] at C
  have hne : ((a2 : Int) != 0) = true := by simp; omega
  have hr : Lib.bitLen a2 ≤ 64 := by
    rw [bitLen_same _ (by omega)]
    unfold Go.bitLen
    split
    · omega
    · have := (Nat.log2_lt h).2 (show a2 < 2 ^ 64 by omega); omega
  generalize Lib.bitLen a2 = t at *
  go_enter Try.func43, Try.ntmps43
  go_wp2
  refine wp_loop_rounds 6 ?_
  rw [rounds_succ]
  go_wp2
  rw [rounds_succ]
  go_wp2_with (refine (C _).mono ?_; rintro e w1 ⟨rfl, rfl⟩)
  go_ret
  exact ⟨congrArg Ending.returned (congrArg (Value.int IntKind.i64) (by go_num)), by repeat (first | exact Below.refl _ _ | refine gr_alloc ?_ _ | refine Below.drew ?_ | refine gr_drewN ?_ _ | refine bel_tr ?_ (by assumption))⟩

theorem bits_1 (a0 a1 : Nat) (w : World) (h : a1 ≠ 0) (hl : a1 < 18446744073709551616) :
    Calls Try.prog 43 #[.agg #[.int .u64 a0, .int .u64 a1, .int .u64 0, .int .u64 0]] w fun e w' => e = .returned (.int .i64 ((64 + Lib.bitLen a1 : Nat) : Int)) ∧ Below w.heap.size w w' := by
  have C := fun w => len64 (a1 : Int) (by omega) (by omega) w
  simp only [Int.toNat_natCast] at C
  have hne : ((a1 : Int) != 0) = true := by simp; omega
  have hr : Lib.bitLen a1 ≤ 64 := by
    rw [bitLen_same _ (by omega)]
    unfold Go.bitLen
    split
    · omega
    · have := (Nat.log2_lt h).2 (show a1 < 2 ^ 64 by omega); omega
  generalize Lib.bitLen a1 = t at *
  go_enter Try.func43, Try.ntmps43
  go_wp2
  refine wp_loop_rounds 6 ?_
  rw [rounds_succ]
  go_wp2
  rw [rounds_succ]
  go_wp2
  rw [rounds_succ]
  go_wp2_with (refine (C _).mono ?_; rintro e w1 ⟨rfl, rfl⟩)
  go_ret
  exact ⟨congrArg Ending.returned (congrArg (Value.int IntKind.i64) (by go_num)), by repeat (first | exact Below.refl _ _ | refine gr_alloc ?_ _ | refine Below.drew ?_ | refine gr_drewN ?_ _ | refine bel_tr ?_ (by assumption))⟩

theorem bits_0 (a0 : Nat) (w : World) (h : a0 ≠ 0) (hl : a0 < 18446744073709551616) :
    Calls Try.prog 43 #[.agg #[.int .u64 a0, .int .u64 0, .int .u64 0, .int .u64 0]] w fun e w' => e = .returned (.int .i64 ((0 + Lib.bitLen a0 : Nat) : Int)) ∧ Below w.heap.size w w' := by
  have C := fun w => len64 (a0 : Int) (by omega) (by omega) w
  simp only [Int.toNat_natCast] at C
  have hne : ((a0 : Int) != 0) = true := by simp; omega
  have hr : Lib.bitLen a0 ≤ 64 := by
    rw [bitLen_same _ (by omega)]
    unfold Go.bitLen
    split
    · omega
    · have := (Nat.log2_lt h).2 (show a0 < 2 ^ 64 by omega); omega
  generalize Lib.bitLen a0 = t at *
  go_enter Try.func43, Try.ntmps43
  go_wp2
  refine wp_loop_rounds 6 ?_
  rw [rounds_succ]
  go_wp2
  rw [rounds_succ]
  go_wp2
  rw [rounds_succ]
  go_wp2
  rw [rounds_succ]
  go_wp2_with (refine (C _).mono ?_; rintro e w1 ⟨rfl, rfl⟩)
  go_ret
  exact ⟨congrArg Ending.returned (congrArg (Value.int IntKind.i64) (by go_num)), by repeat (first | exact Below.refl _ _ | refine gr_alloc ?_ _ | refine Below.drew ?_ | refine gr_drewN ?_ _ | refine bel_tr ?_ (by assumption))⟩

theorem bits_none (w : World) : Calls Try.prog 43 #[.agg #[.int .u64 0, .int .u64 0, .int .u64 0, .int .u64 0]] w fun e w' => e = .returned (.int .i64 0) ∧ Below w.heap.size w w' := by
  go_enter Try.func43, Try.ntmps43
  go_wp2
  refine wp_loop_rounds 6 ?_
  rw [rounds_succ]
  go_wp2
  rw [rounds_succ]
  go_wp2
  rw [rounds_succ]
  go_wp2
  rw [rounds_succ]
  go_wp2
  rw [rounds_succ]
  go_wp2
  go_ret
  exact ⟨rfl, by repeat (first | exact Below.refl _ _ | refine gr_alloc ?_ _ | refine Below.drew ?_ | refine gr_drewN ?_ _ | refine bel_tr ?_ (by assumption))⟩

/-- limbs.Bits -/
theorem bits_any (X : Nat) (hX : X < 2 ^ 256) (w : World) : Calls Try.prog 43 #[num X] w fun e w' => e = .returned (.int .i64 (Go.bitLen X : Nat)) ∧ Below w.heap.size w w' := by
  have hs := wd_sum X hX
  unfold num
  by_cases h3 : wd X 3 = 0
  · rw [h3]
    by_cases h2 : wd X 2 = 0
    · rw [h2]
      by_cases h1 : wd X 1 = 0
      · rw [h1]
        by_cases h0 : wd X 0 = 0
        · rw [h0]
          have : X = 0 := by omega
          subst this
          exact bits_none w
        · rw [← bl_word X 0 (by omega) (Nat.div_eq_of_lt (by have := wd_lt X 0; omega)) h0]
          exact bits_0 _ w h0 (wd_lt _ _)
      · rw [← bl_word X 1 (by omega) (Nat.div_eq_of_lt (by have := wd_lt X 0; have := wd_lt X 1; omega)) h1]
        exact bits_1 _ _ w h1 (wd_lt _ _)
    · rw [← bl_word X 2 (by omega) (Nat.div_eq_of_lt (by have := wd_lt X 0; have := wd_lt X 1; have := wd_lt X 2; omega)) h2]
      exact bits_2 _ _ _ w h2 (wd_lt _ _)
  · rw [← bl_word X 3 (by omega) (Nat.div_eq_of_lt (by omega)) h3]
    exact bits_3 _ _ _ _ w h3 (wd_lt _ _)
end Go.Proofs.Ytodlpmepoakdlaa
