/-
  limbs.mulAdd.
-/
import Derived.Test.YtmhmdbjjmmmgkaaCmp
namespace Go.Proofs.Ytmhmdbjjmmmgkaa
open Go.RowKit
set_option linter.unusedSimpArgs false
set_option linter.unusedVariables false
attribute [local go_sem ↓] Go.wp_at_zero Go.wp_at_succ

theorem mulAdd_words (x y c d P Q s1 c1 l c2 h1 h : Nat)
    (m : ∀ w, Calls Try.prog 70 #[.int .u64 x, .int .u64 y] w fun e w' => e = .returned (.tuple #[.int .u64 (P : Nat), .int .u64 (Q : Nat)]) ∧ w = w')
    (a1 : ∀ w, (callFunc 57 #[.int .u64 Q, .int .u64 c, .int .u64 0]).run Try.prog w = .ok (.value (.tuple #[.int .u64 s1, .int .u64 c1])) w)
    (a2 : ∀ w, (callFunc 57 #[.int .u64 s1, .int .u64 d, .int .u64 0]).run Try.prog w = .ok (.value (.tuple #[.int .u64 l, .int .u64 c2])) w)
    (b1 : IntKind.u64.wrap ((P : Int) + c1) = (h1 : Nat)) (b2 : IntKind.u64.wrap ((h1 : Int) + c2) = (h : Nat)) (w : World) :
    Calls Try.prog 56 #[.int .u64 x, .int .u64 y, .int .u64 c, .int .u64 d] w fun e w' => e = .returned (.tuple #[.int .u64 h, .int .u64 l]) ∧ w' = w := by
  go_enter Try.func56, Try.ntmps56
  go_wp2_with (first | simp only [a1, a2] | (refine (m _).mono ?_; rintro e w1 ⟨rfl, rfl⟩))
  go_ret2
  exact ⟨rfl, rfl⟩

/-- limbs.mulAdd -/
theorem mulAdd_ex (x y c d : Nat) (hx : x < 18446744073709551616) (hy : y < 18446744073709551616) (hc : c < 18446744073709551616) (hd : d < 18446744073709551616) :
    ∃ h l : Nat, h < 18446744073709551616 ∧ l < 18446744073709551616 ∧ x * y + c + d = l + 18446744073709551616 * h ∧
    ∀ w, Calls Try.prog 56 #[.int .u64 x, .int .u64 y, .int .u64 c, .int .u64 d] w fun e w' => e = .returned (.tuple #[.int .u64 h, .int .u64 l]) ∧ w' = w := by
  have bd : x * y ≤ 18446744073709551615 * 18446744073709551615 := Nat.mul_le_mul (by omega) (by omega)
  have M := mul64 x y hx hy
  obtain ⟨P, hP⟩ : ∃ P, P = x * y / 18446744073709551616 := ⟨_, rfl⟩
  obtain ⟨Q, hQ⟩ : ∃ Q, Q = x * y % 18446744073709551616 := ⟨_, rfl⟩
  rw [← hP, ← hQ] at M
  obtain ⟨s1, c1, l1, k1, e1, p1, q1⟩ := add_step Q c 0 (by omega) hc (by omega)
  obtain ⟨l, c2, l2, k2, e2, p2, q2⟩ := add_step s1 d 0 l1 hd (by omega)
  refine ⟨P + c1 + c2, l, ?_, l2, ?_, fun w => mulAdd_words x y c d P Q s1 c1 l c2 (P + c1) (P + c1 + c2) M (fun w => add64 _ _ 0 _ _ (by omega) p1 q1 w) (fun w => add64 _ _ 0 _ _ (by omega) p2 q2 w) ?_ ?_ w⟩
  · clear p1 q1 p2 q2; omega
  · clear p1 q1 p2 q2; omega
  · clear p1 q1 p2 q2; rw [IntKind.wrap_u64]; omega
  · clear p1 q1 p2 q2; rw [IntKind.wrap_u64]; omega
end Go.Proofs.Ytmhmdbjjmmmgkaa
