import Derived.Laws.MathBits
import Derived.Test.YtdpdpmiepidkoaaLen
import Derived.Test.YtdpdpmiepidkoaaPut
/-
  limbs.Bits.
-/
namespace Go.Proofs.Ytdpdpmiepidkoaa
open Go.RowKit
set_option linter.unusedSimpArgs false
set_option linter.unusedVariables false
attribute [local go_sem ↓] Go.wp_at_zero Go.wp_at_succ

theorem bitLen_same : ∀ x : Nat, x < 2 ^ 64 → Lib.bitLen x = Go.bitLen x := by
  intro x
  induction x using Nat.strongRecOn with
  | _ x ih =>
    intro hx
    by_cases h0 : x = 0
    · subst h0; decide
    · rw [Lib.bitLen_half x h0 hx, ih (x / 2) (by omega) (by omega)]
      by_cases h1 : x / 2 = 0
      · have : x = 1 := by omega
        subst this; decide
      · have := Go.bitLen_shift x 1 (by simpa using h1)
        simpa using this.symm

theorem bl_word (X j : Nat) (hj : j < 4) (hX : X / 18446744073709551616 ^ (j + 1) = 0) (h : wd X j ≠ 0) : (64 * j + Lib.bitLen (wd X j) : Nat) = Go.bitLen X := by
  have e : wd X j = X / 2 ^ (64 * j) := by
    unfold wd
    rw [B_pow] at *
    refine Nat.mod_eq_of_lt ?_
    have : X / 2 ^ (64 * j) / 18446744073709551616 = 0 := by
      rw [Nat.div_div_eq_div_mul, show (18446744073709551616 : Nat) = 2 ^ 64 by decide, ← Nat.pow_add]
      exact hX
    omega
  rw [bitLen_same _ (by have := wd_lt X j; omega), e, ← Go.bitLen_shift X (64 * j) (by rw [← e]; exact h)]

theorem bits_3 (a0 a1 a2 a3 : Nat) (w : World) (h : a3 ≠ 0) (hl : a3 < 18446744073709551616) :
    Calls Try.prog 41 #[.agg #[.int .u64 a0, .int .u64 a1, .int .u64 a2, .int .u64 a3]] w fun e w' => e = .returned (.int .i64 ((192 + Lib.bitLen a3 : Nat) : Int)) ∧ Below w.heap.size w w' := by
  have C := fun w => len64 (a3 : Int) (by omega) (by omega) w
  simp only [Int.toNat_natCast] at C
  have hne : ((a3 : Int) != 0) = true := by simp; omega
  have hr : Lib.bitLen a3 ≤ 64 := by
    rw [bitLen_same _ (by omega)]
    unfold Go.bitLen
    split
    · omega
    · have := (Nat.log2_lt h).2 (show a3 < 2 ^ 64 by omega); omega
  generalize Lib.bitLen a3 = t at *
  go_enter Try.func41, Try.ntmps41
  go_wp2
  refine wp_loop_rounds 6 ?_
  rw [rounds_succ]
  go_wp2_with (refine (C _).mono ?_; rintro e w1 ⟨rfl, rfl⟩)
  go_ret
  exact ⟨congrArg Ending.returned (congrArg (Value.int IntKind.i64) (by go_num)), by repeat (first | exact Below.refl _ _ | refine gr_alloc ?_ _ | refine Below.drew ?_ | refine gr_drewN ?_ _ | refine bel_tr ?_ (by assumption))⟩

theorem bits_2 (a0 a1 a2 : Nat) (w : World) (h : a2 ≠ 0) (hl : a2 < 18446744073709551616) :
    Calls Try.prog 41 #[.agg #[.int .u64 a0, .int .u64 a1, .int .u64 a2, .int .u64 0]] w fun e w' => e = .returned (.int .i64 ((128 + Lib.bitLen a2 : Nat) : Int)) ∧ Below w.heap.size w w' := by
  have C := fun w => len64 (a2 : Int) (by omega) (by omega) w
  simp only [Int.toNat_natCast] at C
  have hne : ((a2 : Int) != 0) = true := by simp; omega
  have hr : Lib.bitLen a2 ≤ 64 := by
    rw [bitLen_same _ (by omega)]
    unfold Go.bitLen
    split
    · omega
    · have := (Nat.log2_lt h).2 (show a2 < 2 ^ 64 by omega); omega
  generalize Lib.bitLen a2 = t at *
  go_enter Try.func41, Try.ntmps41
  go_wp2
  refine wp_loop_rounds 6 ?_
  rw [rounds_succ]
  go_wp2
  rw [rounds_succ]
  go_wp2_with (refine (C _).mono ?_; rintro e w1 ⟨rfl, rfl⟩)
  go_ret
  exact ⟨congrArg Ending.returned (congrArg (Value.int IntKind.i64) (by go_num)), by repeat (first | exact Below.refl _ _ | refine gr_alloc ?_ _ | refine Below.drew ?_ | refine gr_drewN ?_ _ | refine bel_tr ?_ (by assumption))⟩

theorem bits_1 (a0 a1 : Nat) (w : World) (h : a1 ≠ 0) (hl : a1 < 18446744073709551616) :
    Calls Try.prog 41 #[.agg #[.int .u64 a0, .int .u64 a1, .int .u64 0, .int .u64 0]] w fun e w' => e = .returned (.int .i64 ((64 + Lib.bitLen a1 : Nat) : Int)) ∧ Below w.heap.size w w' := by
  have C := fun w => len64 (a1 : Int) (by omega) (by omega) w
  simp only [Int.toNat_natCast] at C
  have hne : ((a1 : Int) != 0) = true := by simp; omega
  have hr : Lib.bitLen a1 ≤ 64 := by
    rw [bitLen_same _ (by omega)]
    unfold Go.bitLen
    split
    · omega
    · have := (Nat.log2_lt h).2 (show a1 < 2 ^ 64 by omega); omega
  generalize Lib.bitLen a1 = t at *
  go_enter Try.func41, Try.ntmps41
  go_wp2
  refine wp_loop_rounds 6 ?_
  rw [rounds_succ]
  go_wp2
  rw [rounds_succ]
  go_wp2
  rw [rounds_succ]
  go_wp2_with (refine (C _).mono ?_; rintro e w1 ⟨rfl, rfl⟩)
  go_ret
  exact ⟨congrArg Ending.returned (congrArg (Value.int IntKind.i64) (by go_num)), by repeat (first | exact Below.refl _ _ | refine gr_alloc ?_ _ | refine Below.drew ?_ | refine gr_drewN ?_ _ | refine bel_tr ?_ (by assumption))⟩

theorem bits_0 (a0 : Nat) (w : World) (h : a0 ≠ 0) (hl : a0 < 18446744073709551616) :
    Calls Try.prog 41 #[.agg #[.int .u64 a0, .int .u64 0, .int .u64 0, .int .u64 0]] w fun e w' => e = .returned (.int .i64 ((0 + Lib.bitLen a0 : Nat) : Int)) ∧ Below w.heap.size w w' := by
  have C := fun w => len64 (a0 : Int) (by omega) (by omega) w
  simp only [Int.toNat_natCast] at C
  have hne : ((a0 : Int) != 0) = true := by simp; omega
  have hr : Lib.bitLen a0 ≤ 64 := by
    rw [bitLen_same _ (by omega)]
    unfold Go.bitLen
    split
    · omega
    · have := (Nat.log2_lt h).2 (show a0 < 2 ^ 64 by omega); omega
  generalize Lib.bitLen a0 = t at *
  go_enter Try.func41, Try.ntmps41
  go_wp2
  refine wp_loop_rounds 6 ?_
  rw [rounds_succ]
  go_wp2
  rw [rounds_succ]
  go_wp2
  rw [rounds_succ]
  go_wp2
  rw [rounds_succ]
  go_wp2_with (refine (C _).mono ?_; rintro e w1 ⟨rfl, rfl⟩)
  go_ret
  exact ⟨congrArg Ending.returned (congrArg (Value.int IntKind.i64) (by go_num)), by repeat (first | exact Below.refl _ _ | refine gr_alloc ?_ _ | refine Below.drew ?_ | refine gr_drewN ?_ _ | refine bel_tr ?_ (by assumption))⟩

theorem bits_none (w : World) : Calls Try.prog 41 #[.agg #[.int .u64 0, .int .u64 0, .int .u64 0, .int .u64 0]] w fun e w' => e = .returned (.int .i64 0) ∧ Below w.heap.size w w' := by
  go_enter Try.func41, Try.ntmps41
  go_wp2
  refine wp_loop_rounds 6 ?_
  rw [rounds_succ]
  go_wp2
  rw [rounds_succ]
  go_wp2
  rw [rounds_succ]
  go_wp2
  rw [rounds_succ]
  go_wp2
  rw [rounds_succ]
  go_wp2
  go_ret
  exact ⟨rfl, by repeat (first | exact Below.refl _ _ | refine gr_alloc ?_ _ | refine Below.drew ?_ | refine gr_drewN ?_ _ | refine bel_tr ?_ (by assumption))⟩

/-- limbs.Bits -/
theorem bits_any (X : Nat) (hX : X < 2 ^ 256) (w : World) : Calls Try.prog 41 #[num X] w fun e w' => e = .returned (.int .i64 (Go.bitLen X : Nat)) ∧ Below w.heap.size w w' := by
  have hs := wd_sum X hX
  unfold num
  by_cases h3 : wd X 3 = 0
  · rw [h3]
    by_cases h2 : wd X 2 = 0
    · rw [h2]
      by_cases h1 : wd X 1 = 0
      · rw [h1]
        by_cases h0 : wd X 0 = 0
        · rw [h0]
          have : X = 0 := by omega
          subst this
          exact bits_none w
        · rw [← bl_word X 0 (by omega) (Nat.div_eq_of_lt (by have := wd_lt X 0; omega)) h0]
          exact bits_0 _ w h0 (wd_lt _ _)
      · rw [← bl_word X 1 (by omega) (Nat.div_eq_of_lt (by have := wd_lt X 0; have := wd_lt X 1; omega)) h1]
        exact bits_1 _ _ w h1 (wd_lt _ _)
    · rw [← bl_word X 2 (by omega) (Nat.div_eq_of_lt (by have := wd_lt X 0; have := wd_lt X 1; have := wd_lt X 2; omega)) h2]
      exact bits_2 _ _ _ w h2 (wd_lt _ _)
  · rw [← bl_word X 3 (by omega) (Nat.div_eq_of_lt (by omega)) h3]
    exact bits_3 _ _ _ _ w h3 (wd_lt _ _)
end Go.Proofs.Ytdpdpmiepidkoaa

/-
  A long number is equal to itself; limbs.Of(0), Of(1).
-/
namespace Go.Proofs.Ytdpdpmiepidkoaa
open Go.RowKit
set_option linter.unusedSimpArgs false
set_option linter.unusedVariables false

theorem eqY (X : Nat) (w : World) : (Op.equalIn 10000 24 (num X) (num X)).run Try.prog w = .ok true w := by rw [eqW]; simp
end Go.Proofs.Ytdpdpmiepidkoaa

/-
  The numbers behind LimbsShift.
-/
namespace Go.Proofs.Ytdpdpmiepidkoaa
open Go.RowKit
set_option linter.unusedSimpArgs false
set_option linter.unusedVariables false

theorem bt_tb (X : Nat) (i : Nat) : bt X (i : Int) = (if X.testBit i then 1 else 0) := by
  unfold bt
  rw [if_neg (by omega), Int.toNat_natCast, Nat.testBit_eq_decide_div_mod_eq]
  by_cases h : X / 2 ^ i % 2 = 1
  · simp [h]
  · have : X / 2 ^ i % 2 = 0 := by omega
    simp [this]
end Go.Proofs.Ytdpdpmiepidkoaa

/-
  The numbers behind LimbsBits.
-/
namespace Go.Proofs.Ytdpdpmiepidkoaa
open Go.RowKit
set_option linter.unusedSimpArgs false
set_option linter.unusedVariables false

theorem bl_spec (X : Nat) : X < 2 ^ Go.bitLen X ∧ (X ≠ 0 → 2 ^ (Go.bitLen X - 1) ≤ X) := Go.bitLen_spec X
theorem bl_le (X : Nat) (hX : X < 2 ^ 256) : Go.bitLen X ≤ 256 := by
  by_cases h0 : X = 0
  · subst h0; decide
  · unfold Go.bitLen
    rw [if_neg h0]
    have := (Nat.log2_lt h0).2 hX
    omega
/-- above its highest bit a number has none -/
theorem bl_bit (X i : Nat) (h : bt X (i : Int) = 1) : i < Go.bitLen X := by
  rw [bt_tb] at h
  by_cases ht : X.testBit i
  · by_cases hi : i < Go.bitLen X
    · exact hi
    · have := Nat.testBit_lt_two_pow (Nat.lt_of_lt_of_le (bl_spec X).1 (Nat.pow_le_pow_right (by decide) (show Go.bitLen X ≤ i by omega)))
      rw [this] at ht; cases ht
  · simp [ht] at h
theorem bl_top (X : Nat) (h : Go.bitLen X ≠ 0) : bt X ((Go.bitLen X - 1 : Nat) : Int) = 1 := by
  have h0 : X ≠ 0 := by intro e; subst e; exact h (by decide)
  have h1 := (bl_spec X).1
  have h2 := (bl_spec X).2 h0
  generalize Go.bitLen X = n at *
  unfold bt
  rw [if_neg (by omega), Int.toNat_natCast]
  have h3 : X / 2 ^ (n - 1) < 2 := by
    refine Nat.div_lt_of_lt_mul ?_
    have e : 2 ^ (n - 1) * 2 = 2 ^ n := by rw [← Nat.pow_succ]; congr 1; omega
    rw [e]; exact h1
  have h4 : 1 ≤ X / 2 ^ (n - 1) := (Nat.one_le_div_iff (Nat.two_pow_pos _)).2 h2
  omega
end Go.Proofs.Ytdpdpmiepidkoaa

/-
  math/bits.LeadingZeros64.
-/
namespace Go.Proofs.Ytdpdpmiepidkoaa
open Go.RowKit
set_option linter.unusedSimpArgs false
set_option linter.unusedVariables false
attribute [local go_sem ↓] Go.wp_at_zero Go.wp_at_succ

theorem lz_any (x s : Nat) (hx : x < 18446744073709551616) (hs : s + Go.bitLen x = 64) (w : World) : Calls Try.prog 58 #[.int .u64 (x : Nat)] w fun e w' => e = .returned (.int .i64 (s : Nat)) ∧ w' = w := by
  have C := len64 (x : Int) (by omega) (by omega)
  have hb : Lib.bitLen ((x : Int)).toNat = (Go.bitLen x : Nat) := by rw [Int.toNat_natCast, bitLen_same x (by omega)]
  rw [hb] at C
  obtain ⟨m, hm⟩ : ∃ m, Go.bitLen x = m := ⟨_, rfl⟩
  rw [hm] at C hs
  have HC := Lib.hid C
  clear C hb hm
  go_enter Try.func58, Try.ntmps58
  go_wp2_with fail
  refine (HC.out _).mono ?_
  rintro e v ⟨rfl, rfl⟩
  have e1 : (64 : Int) - (m : Int) = (s : Nat) := by omega
  go_wp2_with fail
  go_ret
  first | exact ⟨rfl, rfl⟩ | (refine ⟨congrArg Ending.returned (congrArg (Value.int IntKind.i64) ?_), rfl⟩; omega)
end Go.Proofs.Ytdpdpmiepidkoaa
