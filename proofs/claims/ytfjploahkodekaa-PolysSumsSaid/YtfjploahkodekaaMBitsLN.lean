/-
  limbs.Bits.
-/
import Derived.Laws.MathBits
import Derived.Test.YtfjploahkodekaaMLen
import Derived.Test.YtfjploahkodekaaMMulW
import Derived.Test.YtfjploahkodekaaMShift
import Derived.Test.YtfjploahkodekaaMShort
namespace Go.Proofs.Ytfjploahkodekaa
set_option maxRecDepth 100000
open Go.RowKit
set_option linter.unusedSimpArgs false
set_option linter.unusedVariables false
attribute [local go_sem ↓] Go.wp_at_zero Go.wp_at_succ

theorem bitLen_same : ∀ x : Nat, x < 2 ^ 64 → Lib.bitLen x = Go.bitLen x := by
  intro x
  induction x using Nat.strongRecOn with
  | _ x ih =>
    intro hx
    by_cases h0 : x = 0
    · subst h0; decide
    · rw [Lib.bitLen_half x h0 hx, ih (x / 2) (by omega) (by omega)]
      by_cases h1 : x / 2 = 0
      · have : x = 1 := by omega
        subst this; decide
      · have := Go.bitLen_shift x 1 (by simpa using h1)
        simpa using this.symm

theorem bl_word (X j : Nat) (hj : j < 4) (hX : X / 18446744073709551616 ^ (j + 1) = 0) (h : wd X j ≠ 0) : (64 * j + Lib.bitLen (wd X j) : Nat) = Go.bitLen X := by
  have e : wd X j = X / 2 ^ (64 * j) := by
    unfold wd
    rw [B_pow] at *
    refine Nat.mod_eq_of_lt ?_
    have : X / 2 ^ (64 * j) / 18446744073709551616 = 0 := by
      rw [Nat.div_div_eq_div_mul, show (18446744073709551616 : Nat) = 2 ^ 64 by decide, ← Nat.pow_add]
      exact hX
    omega
  rw [bitLen_same _ (by have := wd_lt X j; omega), e, ← Go.bitLen_shift X (64 * j) (by rw [← e]; exact h)]

theorem bits_3 (a0 a1 a2 a3 : Nat) (w : World) (h : a3 ≠ 0) (hl : a3 < 18446744073709551616) :
    Calls Try.prog 28 #[.agg #[.int .u64 a0, .int .u64 a1, .int .u64 a2, .int .u64 a3]] w fun e w' => e = .returned (.int .i64 ((192 + Lib.bitLen a3 : Nat) : Int)) ∧ Below w.heap.size w w' := by
  have C := fun w => len64 (a3 : Int) (by omega) (by omega) w
  simp only [Int.toNat_natCast] at C
  have hne : ((a3 : Int) != 0) = true := by simp; omega
  have hr : Lib.bitLen a3 ≤ 64 := by
    rw [bitLen_same _ (by omega)]
    unfold Go.bitLen
    split
    · omega
    · have := (Nat.log2_lt h).2 (show a3 < 2 ^ 64 by omega); omega
  generalize Lib.bitLen a3 = t at *
  go_enter Try.func28, Try.ntmps28
  go_wp2
  refine wp_loop_rounds 6 ?_
  rw [rounds_succ]
  go_wp2_with (refine (C _).mono ?_; rintro e w1 ⟨rfl, rfl⟩)
  go_ret
  exact ⟨congrArg Ending.returned (congrArg (Value.int IntKind.i64) (by go_num)), by repeat (first | exact Below.refl _ _ | refine gr_alloc ?_ _ | refine Below.drew ?_ | refine gr_drewN ?_ _ | refine bel_tr ?_ (by assumption))⟩

theorem bits_2 (a0 a1 a2 : Nat) (w : World) (h : a2 ≠ 0) (hl : a2 < 18446744073709551616) :
    Calls Try.prog 28 #[.agg #[.int .u64 a0, .int .u64 a1, .int .u64 a2, .int .u64 0]] w fun e w' => e = .returned (.int .i64 ((128 + Lib.bitLen a2 : Nat) : Int)) ∧ Below w.heap.size w w' := by
  have C := fun w => len64 (a2 : Int) (by omega) (by omega) w
  simp only [Int.toNat_natCast] at C
  have hne : ((a2 : Int) != 0) = true := by simp; omega
  have hr : Lib.bitLen a2 ≤ 64 := by
    rw [bitLen_same _ (by omega)]
    unfold Go.bitLen
    split
    · omega
    · have := (Nat.log2_lt h).2 (show a2 < 2 ^ 64 by omega); omega
  generalize Lib.bitLen a2 = t at *
  go_enter Try.func28, Try.ntmps28
  go_wp2
  refine wp_loop_rounds 6 ?_
  rw [rounds_succ]
  go_wp2
  rw [rounds_succ]
  go_wp2_with (refine (C _).mono ?_; rintro e w1 ⟨rfl, rfl⟩)
  go_ret
  exact ⟨congrArg Ending.returned (congrArg (Value.int IntKind.i64) (by go_num)), by repeat (first | exact Below.refl _ _ | refine gr_alloc ?_ _ | refine Below.drew ?_ | refine gr_drewN ?_ _ | refine bel_tr ?_ (by assumption))⟩

theorem bits_1 (a0 a1 : Nat) (w : World) (h : a1 ≠ 0) (hl : a1 < 18446744073709551616) :
    Calls Try.prog 28 #[.agg #[.int .u64 a0, .int .u64 a1, .int .u64 0, .int .u64 0]] w fun e w' => e = .returned (.int .i64 ((64 + Lib.bitLen a1 : Nat) : Int)) ∧ Below w.heap.size w w' := by
  have C := fun w => len64 (a1 : Int) (by omega) (by omega) w
  simp only [Int.toNat_natCast] at C
  have hne : ((a1 : Int) != 0) = true := by simp; omega
  have hr : Lib.bitLen a1 ≤ 64 := by
    rw [bitLen_same _ (by omega)]
    unfold Go.bitLen
    split
    · omega
    · have := (Nat.log2_lt h).2 (show a1 < 2 ^ 64 by omega); omega
  generalize Lib.bitLen a1 = t at *
  go_enter Try.func28, Try.ntmps28
  go_wp2
  refine wp_loop_rounds 6 ?_
  rw [rounds_succ]
  go_wp2
  rw [rounds_succ]
  go_wp2
  rw [rounds_succ]
  go_wp2_with (refine (C _).mono ?_; rintro e w1 ⟨rfl, rfl⟩)
  go_ret
  exact ⟨congrArg Ending.returned (congrArg (Value.int IntKind.i64) (by go_num)), by repeat (first | exact Below.refl _ _ | refine gr_alloc ?_ _ | refine Below.drew ?_ | refine gr_drewN ?_ _ | refine bel_tr ?_ (by assumption))⟩

theorem bits_0 (a0 : Nat) (w : World) (h : a0 ≠ 0) (hl : a0 < 18446744073709551616) :
    Calls Try.prog 28 #[.agg #[.int .u64 a0, .int .u64 0, .int .u64 0, .int .u64 0]] w fun e w' => e = .returned (.int .i64 ((0 + Lib.bitLen a0 : Nat) : Int)) ∧ Below w.heap.size w w' := by
  have C := fun w => len64 (a0 : Int) (by omega) (by omega) w
  simp only [Int.toNat_natCast] at C
  have hne : ((a0 : Int) != 0) = true := by simp; omega
  have hr : Lib.bitLen a0 ≤ 64 := by
    rw [bitLen_same _ (by omega)]
    unfold Go.bitLen
    split
    · omega
    · have := (Nat.log2_lt h).2 (show a0 < 2 ^ 64 by omega); omega
  generalize Lib.bitLen a0 = t at *
  go_enter Try.func28, Try.ntmps28
  go_wp2
  refine wp_loop_rounds 6 ?_
  rw [rounds_succ]
  go_wp2
  rw [rounds_succ]
  go_wp2
  rw [rounds_succ]
  go_wp2
  rw [rounds_succ]
  go_wp2_with (refine (C _).mono ?_; rintro e w1 ⟨rfl, rfl⟩)
  go_ret
  exact ⟨congrArg Ending.returned (congrArg (Value.int IntKind.i64) (by go_num)), by repeat (first | exact Below.refl _ _ | refine gr_alloc ?_ _ | refine Below.drew ?_ | refine gr_drewN ?_ _ | refine bel_tr ?_ (by assumption))⟩

theorem bits_none (w : World) : Calls Try.prog 28 #[.agg #[.int .u64 0, .int .u64 0, .int .u64 0, .int .u64 0]] w fun e w' => e = .returned (.int .i64 0) ∧ Below w.heap.size w w' := by
  go_enter Try.func28, Try.ntmps28
  go_wp2
  refine wp_loop_rounds 6 ?_
  rw [rounds_succ]
  go_wp2
  rw [rounds_succ]
  go_wp2
  rw [rounds_succ]
  go_wp2
  rw [rounds_succ]
  go_wp2
  rw [rounds_succ]
  go_wp2
  go_ret
  exact ⟨rfl, by repeat (first | exact Below.refl _ _ | refine gr_alloc ?_ _ | refine Below.drew ?_ | refine gr_drewN ?_ _ | refine bel_tr ?_ (by assumption))⟩

/-- limbs.Bits -/
theorem bits_any (X : Nat) (hX : X < 2 ^ 256) (w : World) : Calls Try.prog 28 #[num X] w fun e w' => e = .returned (.int .i64 (Go.bitLen X : Nat)) ∧ Below w.heap.size w w' := by
  have hs := wd_sum X hX
  unfold num
  by_cases h3 : wd X 3 = 0
  · rw [h3]
    by_cases h2 : wd X 2 = 0
    · rw [h2]
      by_cases h1 : wd X 1 = 0
      · rw [h1]
        by_cases h0 : wd X 0 = 0
        · rw [h0]
          have : X = 0 := by omega
          subst this
          exact bits_none w
        · rw [← bl_word X 0 (by omega) (Nat.div_eq_of_lt (by have := wd_lt X 0; omega)) h0]
          exact bits_0 _ w h0 (wd_lt _ _)
      · rw [← bl_word X 1 (by omega) (Nat.div_eq_of_lt (by have := wd_lt X 0; have := wd_lt X 1; omega)) h1]
        exact bits_1 _ _ w h1 (wd_lt _ _)
    · rw [← bl_word X 2 (by omega) (Nat.div_eq_of_lt (by have := wd_lt X 0; have := wd_lt X 1; have := wd_lt X 2; omega)) h2]
      exact bits_2 _ _ _ w h2 (wd_lt _ _)
  · rw [← bl_word X 3 (by omega) (Nat.div_eq_of_lt (by omega)) h3]
    exact bits_3 _ _ _ _ w h3 (wd_lt _ _)
end Go.Proofs.Ytfjploahkodekaa

/-
  A long number is equal to itself; limbs.Of(0), Of(1).
-/
namespace Go.Proofs.Ytfjploahkodekaa
set_option maxRecDepth 100000
open Go.RowKit
set_option linter.unusedSimpArgs false
set_option linter.unusedVariables false

theorem eqY (X : Nat) (w : World) : (Op.equalIn 10000 24 (num X) (num X)).run Try.prog w = .ok true w := by rw [eqW]; simp
theorem of0N (w : World) : Calls Try.prog 26 #[.int .u64 0] w fun e w' => e = .returned (num 0) ∧ Below w.heap.size w w' := of_any 0 (by omega) w
theorem of1N (w : World) : Calls Try.prog 26 #[.int .u64 1] w fun e w' => e = .returned (num 1) ∧ Below w.heap.size w w' := of_any 1 (by omega) w
end Go.Proofs.Ytfjploahkodekaa

/-
  balefireref02.Digits: sixteen digits of sixteen bits.
-/
namespace Go.Proofs.Ytfjploahkodekaa
set_option maxRecDepth 100000
open Go.RowKit
set_option linter.unusedSimpArgs false
set_option linter.unusedVariables false
attribute [local go_sem ↓] Go.wp_at_zero Go.wp_at_succ

/-- digit k of X -/
def dg (X k : Nat) : Nat := X / 65536 ^ k % 65536
theorem dg_lt (X k : Nat) : dg X k < 65536 := Nat.mod_lt _ (by decide)
theorem dg_wd (X q r : Nat) (hr : r < 4) : wd X q / 65536 ^ r % 65536 = dg X (4 * q + r) := by
  unfold wd dg
  have e : (18446744073709551616 : Nat) = 65536 ^ r * (65536 ^ (4 - r)) := by rw [← Nat.pow_add, show r + (4 - r) = 4 by omega]
  have e2 : (18446744073709551616 : Nat) ^ q = 65536 ^ (4 * q) := by rw [Nat.pow_mul]
  rw [e2]
  conv => lhs; arg 1; arg 1; arg 2; rw [e]
  rw [Nat.mod_mul_right_div_self, Nat.mod_mod_of_dvd _ (Nat.dvd_trans (by decide) (Nat.pow_dvd_pow 65536 (show 1 ≤ 4 - r by omega))), Nat.div_div_eq_div_mul, ← Nat.pow_add]
/-- all digits -/
def ds (X : Nat) : List Nat := [dg X 0, dg X 1, dg X 2, dg X 3, dg X 4, dg X 5, dg X 6, dg X 7, dg X 8, dg X 9, dg X 10, dg X 11, dg X 12, dg X 13, dg X 14, dg X 15]
theorem ds_len (X : Nat) : (ds X).length = 16 := rfl
theorem ds_at (X k : Nat) (h : k < 16) : (ds X).getD k 0 = dg X k := by
  match k, h with
  | 0, _ | 1, _ | 2, _ | 3, _ | 4, _ | 5, _ | 6, _ | 7, _ | 8, _ | 9, _ | 10, _ | 11, _ | 12, _ | 13, _ | 14, _ | 15, _ => rfl
  | k + 16, h => omega
theorem ds_lt (X : Nat) : ∀ x ∈ ds X, x < 65536 := by
  intro x hx
  obtain ⟨k, hk, rfl⟩ := List.mem_iff_getElem.1 hx
  have h := ds_at X k hk
  simp only [List.getD, List.getElem?_eq_getElem hk, Option.getD_some] at h
  rw [h]; exact dg_lt X k
theorem ds_of (X : Nat) (M : List Nat) (hl : M.length = 16) (h : ∀ k, k < 16 → M.getD k 0 = dg X k) : M = ds X := by
  refine List.ext_getElem (by rw [hl, ds_len]) fun k h1 h2 => ?_
  have e1 := h k (by omega)
  have e2 := ds_at X k (by omega)
  simp only [List.getD, List.getElem?_eq_getElem h1, Option.getD_some] at e1
  simp only [List.getD, List.getElem?_eq_getElem h2, Option.getD_some] at e2
  rw [e1, e2]

end Go.Proofs.Ytfjploahkodekaa

/-
  The numbers behind LimbsShift.
-/
namespace Go.Proofs.Ytfjploahkodekaa
set_option maxRecDepth 100000
open Go.RowKit
set_option linter.unusedSimpArgs false
set_option linter.unusedVariables false

theorem bt_tb (X : Nat) (i : Nat) : bt X (i : Int) = (if X.testBit i then 1 else 0) := by
  unfold bt
  rw [if_neg (by omega), Int.toNat_natCast, Nat.testBit_eq_decide_div_mod_eq]
  by_cases h : X / 2 ^ i % 2 = 1
  · simp [h]
  · have : X / 2 ^ i % 2 = 0 := by omega
    simp [this]
theorem tb_nat (X m : Nat) : tb X ((m : Nat) : Int) = X.testBit m := by
  unfold tb
  rw [Int.toNat_natCast, decide_eq_true (by omega)]; rfl
theorem shN_left (X n : Nat) (hn : n < 256) : shN X (n : Int) = X * 2 ^ n % 2 ^ 256 := by
  unfold shN
  rw [if_pos (by omega), Int.toNat_natCast]
theorem shN_right (X n : Nat) (hn : 0 < n) : shN X (-(n : Int)) = X / 2 ^ n := by
  unfold shN
  rw [if_neg (by omega), Int.neg_neg, Int.toNat_natCast]
theorem shN_zero (X : Nat) (hX : X < 2 ^ 256) : shN X 0 = X := by
  have := shN_left X 0 (by omega)
  simpa [Nat.mod_eq_of_lt hX] using this
theorem shN_high (X n : Nat) (hX : X < 2 ^ 256) (hn : n < 256) : shN X ((n : Int) - 256) = X * 2 ^ n / 2 ^ 256 := by
  rw [show (n : Int) - 256 = -((256 - n : Nat) : Int) by omega, shN_right X _ (by omega)]
  have e : (2 : Nat) ^ 256 = 2 ^ n * 2 ^ (256 - n) := by rw [← Nat.pow_add, show n + (256 - n) = 256 by omega]
  rw [e, Nat.mul_comm X, Nat.mul_div_mul_left _ _ (Nat.two_pow_pos n)]
/-- there and back again -/
theorem back_bit (X n i : Nat) (hX : X < 2 ^ 256) (hn : n < 256) (hi : i < 256) : bt (shN (shN X (n : Int)) (-(n : Int))) (i : Int) = if i < 256 - n then bt X (i : Int) else 0 := by
  have hs := sh_lt X hX (n : Int)
  rw [bt_tb, sh_tb _ hs, bt_tb]
  have e : ((i : Nat) : Int) - -(n : Int) = ((i + n : Nat) : Int) := by omega
  rw [e, tb_nat, sh_tb X hX]
  have e2 : ((i + n : Nat) : Int) - (n : Int) = ((i : Nat) : Int) := by omega
  rw [e2, tb_nat]
  by_cases h : i < 256 - n
  · have h1 : i + n < 256 := by omega
    simp [h, hi, h1]
  · have h1 : ¬ i + n < 256 := by omega
    simp [h, h1]
theorem right_bit (X n i : Nat) (hX : X < 2 ^ 256) (hi : i < 256) : bt (shN X (-(n : Int))) (i : Int) = bt X ((i : Int) + n) := by
  rw [show (i : Int) + n = ((i + n : Nat) : Int) by omega, bt_tb, bt_tb, sh_tb X hX]
  have e : ((i : Nat) : Int) - -(n : Int) = ((i + n : Nat) : Int) := by omega
  rw [e, tb_nat]
  simp [hi]
theorem sh_256 (X : Nat) : shN X 256 = 0 := by
  have e : (2 : Nat) ^ (256 : Int).toNat = 2 ^ 256 := by decide
  unfold shN
  rw [if_pos (by decide), e, Nat.mul_mod_left]
theorem sh_m256 (X : Nat) (hX : X < 2 ^ 256) : shN X (-256) = 0 := by
  have := shN_right X 256 (by omega)
  rw [Nat.div_eq_of_lt hX] at this
  exact this
/-- a power of two, word by word -/
theorem pow_words (n k p : Nat) (hn : n < 256) (hk : k = n / 64) (hp : p = n % 64) : (#[.int .u64 0, .int .u64 0, .int .u64 0, .int .u64 0] : Array Value).setIfInBounds k (.int .u64 (2 ^ p : Nat)) =
    #[.int .u64 (wd (2 ^ n) 0 : Nat), .int .u64 (wd (2 ^ n) 1 : Nat), .int .u64 (wd (2 ^ n) 2 : Nat), .int .u64 (wd (2 ^ n) 3 : Nat)] := by
  have hp64 : p < 64 := by omega
  have hb : (2 : Nat) ^ p < 18446744073709551616 := Nat.pow_lt_pow_right (m := p) (n := 64) (by decide) hp64
  have e : n = 64 * k + p := by omega
  have hk4 : k < 4 := by omega
  have hpow : (2 : Nat) ^ n = 18446744073709551616 ^ k * 2 ^ p := by rw [e, Nat.pow_add, Nat.pow_mul]
  rw [hpow]
  generalize (2 : Nat) ^ p = q at *
  match k, hk4 with
  | 0, _ => obtain ⟨e0, e1, e2, e3⟩ := wd_of q 0 0 0 hb (by omega) (by omega) (by omega) (18446744073709551616 ^ 0 * q) (by omega); rw [e0, e1, e2, e3]; rfl
  | 1, _ => obtain ⟨e0, e1, e2, e3⟩ := wd_of 0 q 0 0 (by omega) hb (by omega) (by omega) (18446744073709551616 ^ 1 * q) (by omega); rw [e0, e1, e2, e3]; rfl
  | 2, _ => obtain ⟨e0, e1, e2, e3⟩ := wd_of 0 0 q 0 (by omega) (by omega) hb (by omega) (18446744073709551616 ^ 2 * q) (by omega); rw [e0, e1, e2, e3]; rfl
  | 3, _ => obtain ⟨e0, e1, e2, e3⟩ := wd_of 0 0 0 q (by omega) (by omega) (by omega) hb (18446744073709551616 ^ 3 * q) (by omega); rw [e0, e1, e2, e3]; rfl
end Go.Proofs.Ytfjploahkodekaa

/-
  The numbers behind LimbsBits.
-/
namespace Go.Proofs.Ytfjploahkodekaa
set_option maxRecDepth 100000
open Go.RowKit
set_option linter.unusedSimpArgs false
set_option linter.unusedVariables false

theorem bl_spec (X : Nat) : X < 2 ^ Go.bitLen X ∧ (X ≠ 0 → 2 ^ (Go.bitLen X - 1) ≤ X) := Go.bitLen_spec X
theorem bl_le (X : Nat) (hX : X < 2 ^ 256) : Go.bitLen X ≤ 256 := by
  by_cases h0 : X = 0
  · subst h0; decide
  · unfold Go.bitLen
    rw [if_neg h0]
    have := (Nat.log2_lt h0).2 hX
    omega
/-- above its highest bit a number has none -/
theorem bl_bit (X i : Nat) (h : bt X (i : Int) = 1) : i < Go.bitLen X := by
  rw [bt_tb] at h
  by_cases ht : X.testBit i
  · by_cases hi : i < Go.bitLen X
    · exact hi
    · have := Nat.testBit_lt_two_pow (Nat.lt_of_lt_of_le (bl_spec X).1 (Nat.pow_le_pow_right (by decide) (show Go.bitLen X ≤ i by omega)))
      rw [this] at ht; cases ht
  · simp [ht] at h
theorem bl_top (X : Nat) (h : Go.bitLen X ≠ 0) : bt X ((Go.bitLen X - 1 : Nat) : Int) = 1 := by
  have h0 : X ≠ 0 := by intro e; subst e; exact h (by decide)
  have h1 := (bl_spec X).1
  have h2 := (bl_spec X).2 h0
  generalize Go.bitLen X = n at *
  unfold bt
  rw [if_neg (by omega), Int.toNat_natCast]
  have h3 : X / 2 ^ (n - 1) < 2 := by
    refine Nat.div_lt_of_lt_mul ?_
    have e : 2 ^ (n - 1) * 2 = 2 ^ n := by rw [← Nat.pow_succ]; congr 1; omega
    rw [e]; exact h1
  have h4 : 1 ≤ X / 2 ^ (n - 1) := (Nat.one_le_div_iff (Nat.two_pow_pos _)).2 h2
  omega
theorem bl_lt (X Y : Nat) (h : Go.bitLen X < Go.bitLen Y) : X < Y := by
  have h1 := (bl_spec X).1
  have h0 : Y ≠ 0 := by intro e; subst e; exact absurd h (by rw [show Go.bitLen 0 = 0 by decide]; omega)
  have h2 := (bl_spec Y).2 h0
  exact Nat.lt_of_lt_of_le h1 (Nat.le_trans (Nat.pow_le_pow_right (by decide) (by omega)) h2)
/-- one bit more -/
theorem sum_bit (X i : Nat) (hX : X < 2 ^ 256) (hi : i < 256) : X % 2 ^ (i + 1) = X % 2 ^ i + 2 ^ i * bt X (i : Int) ∧ X % 2 ^ i + 2 ^ i < 2 ^ 256 ∧ shN 1 (i : Int) = 2 ^ i := by
  have hp : (2 : Nat) ^ i * 2 ≤ 2 ^ 256 := by rw [← Nat.pow_succ]; exact Nat.pow_le_pow_right (by decide) (by omega)
  have hm : X % 2 ^ i < 2 ^ i := Nat.mod_lt _ (Nat.two_pow_pos _)
  refine ⟨?_, by omega, ?_⟩
  · unfold bt
    rw [if_neg (by omega), Int.toNat_natCast, Nat.mod_pow_succ]
  · rw [shN_left 1 i hi, Nat.one_mul, Nat.mod_eq_of_lt (Nat.pow_lt_pow_right (by decide) hi)]
end Go.Proofs.Ytfjploahkodekaa
