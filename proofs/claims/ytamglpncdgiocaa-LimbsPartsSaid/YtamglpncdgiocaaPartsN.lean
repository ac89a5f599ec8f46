/-
  The walk of LimbsParts: it answers true, and nothing that was there is changed.
-/
import Derived.Test.YtamglpncdgiocaaEq
import Derived.Deep.RegionHeld3
namespace Go.Proofs.Ytamglpncdgiocaa
open Go.RowKit
attribute [local go_sem ↓] Go.wp_at_zero Go.wp_at_succ

theorem sh_l (X : Nat) : shN X 128 = X * 340282366920938463463374607431768211456 % 2 ^ 256 := by
  have e : (2 : Nat) ^ (128 : Int).toNat = 340282366920938463463374607431768211456 := by decide
  unfold shN
  rw [if_pos (by decide), e]
theorem sh_r (X : Nat) : shN X (-128) = X / 340282366920938463463374607431768211456 := by
  have e : (2 : Nat) ^ (-(-128 : Int)).toNat = 340282366920938463463374607431768211456 := by decide
  unfold shN
  rw [if_neg (by decide), e]
/-- two words as a number -/
def tw (a b : Nat) : Nat := a + 18446744073709551616 * b
theorem tw_num (a b : Nat) (ha : a < 18446744073709551616) (hb : b < 18446744073709551616) : num (tw a b) = .agg #[.int .u64 (a : Nat), .int .u64 (b : Nat), .int .u64 0, .int .u64 0] :=
  (num_of a b 0 0 ha hb (by omega) (by omega) (tw a b) (by unfold tw; omega)).symm
theorem tw_lt (a b : Nat) (ha : a < 18446744073709551616) (hb : b < 18446744073709551616) : tw a b < 340282366920938463463374607431768211456 := by unfold tw; omega
/-- the numbers behind LimbsParts -/
theorem parts_nums (X Y x0 x1 y0 y1 ll m lh n hl o hh p cr be lo mo hi q h2 r P H : Nat) (hx0 : x0 < 340282366920938463463374607431768211456) (hx1 : x1 < 340282366920938463463374607431768211456) (hy0 : y0 < 340282366920938463463374607431768211456) (hy1 : y1 < 340282366920938463463374607431768211456)
    (hX : X = x0 + 340282366920938463463374607431768211456 * x1) (hY : Y = y0 + 340282366920938463463374607431768211456 * y1)
    (bll : ll < 2 ^ 256) (blh : lh < 2 ^ 256) (bhl : hl < 2 ^ 256) (bhh : hh < 2 ^ 256)
    (e1 : x0 * y0 = ll + 2 ^ 256 * m) (e2 : x0 * y1 = lh + 2 ^ 256 * n) (e3 : x1 * y0 = hl + 2 ^ 256 * o) (e4 : x1 * y1 = hh + 2 ^ 256 * p) :
    m = 0 ∧ n = 0 ∧ o = 0 ∧ p = 0 ∧ (cr < 2 ^ 256 → be ≤ 1 → lh + hl = cr + 2 ^ 256 * be → lo < 2 ^ 256 → mo ≤ 1 → ll + cr * 340282366920938463463374607431768211456 % 2 ^ 256 = lo + 2 ^ 256 * mo → hi < 2 ^ 256 → q ≤ 1 → hh + cr / 340282366920938463463374607431768211456 = hi + 2 ^ 256 * q →
      h2 < 2 ^ 256 → r ≤ 1 → hi + (mo + 340282366920938463463374607431768211456 * be) = h2 + 2 ^ 256 * r → P < 2 ^ 256 → H < 2 ^ 256 → X * Y = P + 2 ^ 256 * H → q = 0 ∧ r = 0 ∧ P = lo ∧ H = h2) := by
  have b1 : x0 * y0 ≤ 340282366920938463463374607431768211455 * 340282366920938463463374607431768211455 := Nat.mul_le_mul (by omega) (by omega)
  have b2 : x0 * y1 ≤ 340282366920938463463374607431768211455 * 340282366920938463463374607431768211455 := Nat.mul_le_mul (by omega) (by omega)
  have b3 : x1 * y0 ≤ 340282366920938463463374607431768211455 * 340282366920938463463374607431768211455 := Nat.mul_le_mul (by omega) (by omega)
  have b4 : x1 * y1 ≤ 340282366920938463463374607431768211455 * 340282366920938463463374607431768211455 := Nat.mul_le_mul (by omega) (by omega)
  refine ⟨by omega, by omega, by omega, by omega, ?_⟩
  intro c1 c2 c3 c4 c5 c6 c7 c8 c9 d1 d2 d3 d4 d5 d6
  have ex : X * Y = x0 * y0 + 340282366920938463463374607431768211456 * (x0 * y1) + 340282366920938463463374607431768211456 * (x1 * y0) + 340282366920938463463374607431768211456 * 340282366920938463463374607431768211456 * (x1 * y1) := by
    rw [hX, hY, Nat.add_mul, Nat.mul_add, Nat.mul_add, Nat.mul_left_comm x0, Nat.mul_assoc _ x1, Nat.mul_assoc _ x1, Nat.mul_left_comm x1]
    rw [← Nat.mul_assoc 340282366920938463463374607431768211456 340282366920938463463374607431768211456 (x1 * y1)]
    omega
  rw [ex] at d6
  clear ex
  generalize x0 * y0 = p1 at *
  generalize x0 * y1 = p2 at *
  generalize x1 * y0 = p3 at *
  generalize x1 * y1 = p4 at *
  omega
end Go.Proofs.Ytamglpncdgiocaa
