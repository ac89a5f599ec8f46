/-
  The numbers behind LimbsShift.
-/
import Derived.Test.YtmhmdbjjmmmgkaaEq
import Derived.Test.YtmhmdbjjmmmgkaaShift2
import Derived.Test.YtmhmdbjjmmmgkaaBitsN
namespace Go.Proofs.Ytmhmdbjjmmmgkaa
open Go.RowKit
set_option linter.unusedSimpArgs false
set_option linter.unusedVariables false

theorem bt_tb (X : Nat) (i : Nat) : bt X (i : Int) = (if X.testBit i then 1 else 0) := by
  unfold bt
  rw [if_neg (by omega), Int.toNat_natCast, Nat.testBit_eq_decide_div_mod_eq]
  by_cases h : X / 2 ^ i % 2 = 1
  · simp [h]
  · have : X / 2 ^ i % 2 = 0 := by omega
    simp [this]
theorem tb_nat (X m : Nat) : tb X ((m : Nat) : Int) = X.testBit m := by
  unfold tb
  rw [Int.toNat_natCast, decide_eq_true (by omega)]; rfl
theorem shN_left (X n : Nat) (hn : n < 256) : shN X (n : Int) = X * 2 ^ n % 2 ^ 256 := by
  unfold shN
  rw [if_pos (by omega), Int.toNat_natCast]
theorem shN_right (X n : Nat) (hn : 0 < n) : shN X (-(n : Int)) = X / 2 ^ n := by
  unfold shN
  rw [if_neg (by omega), Int.neg_neg, Int.toNat_natCast]
theorem shN_zero (X : Nat) (hX : X < 2 ^ 256) : shN X 0 = X := by
  have := shN_left X 0 (by omega)
  simpa [Nat.mod_eq_of_lt hX] using this
theorem shN_high (X n : Nat) (hX : X < 2 ^ 256) (hn : n < 256) : shN X ((n : Int) - 256) = X * 2 ^ n / 2 ^ 256 := by
  rw [show (n : Int) - 256 = -((256 - n : Nat) : Int) by omega, shN_right X _ (by omega)]
  have e : (2 : Nat) ^ 256 = 2 ^ n * 2 ^ (256 - n) := by rw [← Nat.pow_add, show n + (256 - n) = 256 by omega]
  rw [e, Nat.mul_comm X, Nat.mul_div_mul_left _ _ (Nat.two_pow_pos n)]
/-- there and back again -/
theorem back_bit (X n i : Nat) (hX : X < 2 ^ 256) (hn : n < 256) (hi : i < 256) : bt (shN (shN X (n : Int)) (-(n : Int))) (i : Int) = if i < 256 - n then bt X (i : Int) else 0 := by
  have hs := sh_lt X hX (n : Int)
  rw [bt_tb, sh_tb _ hs, bt_tb]
  have e : ((i : Nat) : Int) - -(n : Int) = ((i + n : Nat) : Int) := by omega
  rw [e, tb_nat, sh_tb X hX]
  have e2 : ((i + n : Nat) : Int) - (n : Int) = ((i : Nat) : Int) := by omega
  rw [e2, tb_nat]
  by_cases h : i < 256 - n
  · have h1 : i + n < 256 := by omega
    simp [h, hi, h1]
  · have h1 : ¬ i + n < 256 := by omega
    simp [h, h1]
theorem right_bit (X n i : Nat) (hX : X < 2 ^ 256) (hi : i < 256) : bt (shN X (-(n : Int))) (i : Int) = bt X ((i : Int) + n) := by
  rw [show (i : Int) + n = ((i + n : Nat) : Int) by omega, bt_tb, bt_tb, sh_tb X hX]
  have e : ((i : Nat) : Int) - -(n : Int) = ((i + n : Nat) : Int) := by omega
  rw [e, tb_nat]
  simp [hi]
theorem sh_256 (X : Nat) : shN X 256 = 0 := by
  have e : (2 : Nat) ^ (256 : Int).toNat = 2 ^ 256 := by decide
  unfold shN
  rw [if_pos (by decide), e, Nat.mul_mod_left]
theorem sh_m256 (X : Nat) (hX : X < 2 ^ 256) : shN X (-256) = 0 := by
  have := shN_right X 256 (by omega)
  rw [Nat.div_eq_of_lt hX] at this
  exact this
/-- a power of two, word by word -/
theorem pow_words (n k p : Nat) (hn : n < 256) (hk : k = n / 64) (hp : p = n % 64) : (#[.int .u64 0, .int .u64 0, .int .u64 0, .int .u64 0] : Array Value).setIfInBounds k (.int .u64 (2 ^ p : Nat)) =
    #[.int .u64 (wd (2 ^ n) 0 : Nat), .int .u64 (wd (2 ^ n) 1 : Nat), .int .u64 (wd (2 ^ n) 2 : Nat), .int .u64 (wd (2 ^ n) 3 : Nat)] := by
  have hp64 : p < 64 := by omega
  have hb : (2 : Nat) ^ p < 18446744073709551616 := Nat.pow_lt_pow_right (m := p) (n := 64) (by decide) hp64
  have e : n = 64 * k + p := by omega
  have hk4 : k < 4 := by omega
  have hpow : (2 : Nat) ^ n = 18446744073709551616 ^ k * 2 ^ p := by rw [e, Nat.pow_add, Nat.pow_mul]
  rw [hpow]
  generalize (2 : Nat) ^ p = q at *
  match k, hk4 with
  | 0, _ => obtain ⟨e0, e1, e2, e3⟩ := wd_of q 0 0 0 hb (by omega) (by omega) (by omega) (18446744073709551616 ^ 0 * q) (by omega); rw [e0, e1, e2, e3]; rfl
  | 1, _ => obtain ⟨e0, e1, e2, e3⟩ := wd_of 0 q 0 0 (by omega) hb (by omega) (by omega) (18446744073709551616 ^ 1 * q) (by omega); rw [e0, e1, e2, e3]; rfl
  | 2, _ => obtain ⟨e0, e1, e2, e3⟩ := wd_of 0 0 q 0 (by omega) (by omega) hb (by omega) (18446744073709551616 ^ 2 * q) (by omega); rw [e0, e1, e2, e3]; rfl
  | 3, _ => obtain ⟨e0, e1, e2, e3⟩ := wd_of 0 0 0 q (by omega) (by omega) (by omega) hb (18446744073709551616 ^ 3 * q) (by omega); rw [e0, e1, e2, e3]; rfl
end Go.Proofs.Ytmhmdbjjmmmgkaa
