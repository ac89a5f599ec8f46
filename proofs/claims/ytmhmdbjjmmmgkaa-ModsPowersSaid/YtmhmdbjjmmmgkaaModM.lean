/-
  An odd number's inverse by 2^256: there is one, and just one. Nothing here speaks of the program.
-/
import Derived.Test.YtmhmdbjjmmmgkaaModN
namespace Go.Proofs.Ytmhmdbjjmmmgkaa
set_option linter.unusedSimpArgs false
set_option linter.unusedVariables false

theorem newt_more (M r r' : Nat) (hr : 0 < r') (h1 : r' ≤ 2 * r) (h2 : r' ≤ 256) (h : ∃ X, X < 2 ^ 256 ∧ M * X % 2 ^ r = 1) : ∃ X, X < 2 ^ 256 ∧ M * X % 2 ^ r' = 1 := by
  obtain ⟨X, hX, h⟩ := h
  obtain ⟨S, c, e⟩ : ∃ S c, 2 + 2 ^ 256 * c = S + M * X % 2 ^ 256 := by
    have : M * X % 2 ^ 256 < 2 ^ 256 := Nat.mod_lt _ (by decide)
    exact ⟨2 + 2 ^ 256 - M * X % 2 ^ 256, 1, by omega⟩
  exact ⟨X * S % 2 ^ 256, Nat.mod_lt _ (by decide), newt_nat M X (M * X % 2 ^ 256) S (X * S % 2 ^ 256) (M * X / 2 ^ 256) c (X * S / 2 ^ 256) r r' hr h1 h2 h (by omega) e (by omega)⟩
theorem inv_exists (M : Nat) (hM : M < 2 ^ 256) (h : M % 2 = 1) : ∃ X, X < 2 ^ 256 ∧ M * X % 2 ^ 256 = 1 :=
  newt_more M 192 256 (by decide) (by decide) (by decide) <| newt_more M 96 192 (by decide) (by decide) (by decide) <| newt_more M 48 96 (by decide) (by decide) (by decide) <|
  newt_more M 24 48 (by decide) (by decide) (by decide) <| newt_more M 12 24 (by decide) (by decide) (by decide) <| newt_more M 6 12 (by decide) (by decide) (by decide) <| newt_more M 3 6 (by decide) (by decide) (by decide)
    ⟨M, hM, newt_first M h⟩
theorem inv_one (M X T R : Nat) (hX : X < R) (hT : T < R) (h : M * X % R = 1) (k : M * T % R = 1) : X = T := by
  have a : M * X * T % R = T := by rw [Nat.mul_mod, h, Nat.one_mul, Nat.mod_mod, Nat.mod_eq_of_lt hT]
  have b : M * T * X % R = X := by rw [Nat.mul_mod, k, Nat.one_mul, Nat.mod_mod, Nat.mod_eq_of_lt hX]
  rw [show M * X * T = M * T * X by rw [Nat.mul_assoc, Nat.mul_comm X, ← Nat.mul_assoc]] at a
  exact b.symm.trans a
/-- one round -/
theorem newt_round (M X p S X2 l c h r : Nat) (h3 : 3 ≤ r) (h0 : M * X % 2 ^ (min r 256) = 1) (hr : r < 256) (e1 : M * X = p + 2 ^ 256 * l) (e2 : 2 + 2 ^ 256 * c = S + p) (e3 : X * S = X2 + 2 ^ 256 * h) : M * X2 % 2 ^ (min (r * 2) 256) = 1 :=
  newt_nat M X p S X2 l c h (min r 256) (min (r * 2) 256) (by omega) (by omega) (by omega) h0 e1 e2 e3
end Go.Proofs.Ytmhmdbjjmmmgkaa
