/-
  limbs.Add and limbs.Sub: sums and differences of long numbers.
-/
import Derived.Test.YtmhmdbjjmmmgkaaAddW
namespace Go.Proofs.Ytmhmdbjjmmmgkaa
open Go.RowKit
set_option linter.unusedSimpArgs false
set_option linter.unusedVariables false

/-- limbs.Add -/
theorem add_ex (X Y : Nat) (hX : X < 2 ^ 256) (hY : Y < 2 ^ 256) : ∃ S c : Nat, S < 2 ^ 256 ∧ c ≤ 1 ∧ X + Y = S + 2 ^ 256 * c ∧
    ∀ w, Calls Try.prog 32 #[num X, num Y] w fun e w' => e = .returned (.tuple #[num S, .int .u64 (c : Nat)]) ∧ Below w.heap.size w w' := by
  obtain ⟨s0, c0, l0, k0, e0, p0, q0⟩ := add_step (wd X 0) (wd Y 0) 0 (wd_lt _ _) (wd_lt _ _) (by omega)
  obtain ⟨s1, c1, l1, k1, e1, p1, q1⟩ := add_step (wd X 1) (wd Y 1) c0 (wd_lt _ _) (wd_lt _ _) (by omega)
  obtain ⟨s2, c2, l2, k2, e2, p2, q2⟩ := add_step (wd X 2) (wd Y 2) c1 (wd_lt _ _) (wd_lt _ _) (by omega)
  obtain ⟨s3, c3, l3, k3, e3, p3, q3⟩ := add_step (wd X 3) (wd Y 3) c2 (wd_lt _ _) (wd_lt _ _) (by omega)
  have sX := wd_sum X hX
  have sY := wd_sum Y hY
  obtain ⟨S, hS⟩ : ∃ S, S = s0 + 18446744073709551616 * s1 + 340282366920938463463374607431768211456 * s2 + 6277101735386680763835789423207666416102355444464034512896 * s3 := ⟨_, rfl⟩
  refine ⟨S, c3, ?_, k3, ?_, fun w => ?_⟩
  rotate_left 2
  · rw [← num_of s0 s1 s2 s3 l0 l1 l2 l3 S hS]
    exact add_words _ _ _ _ _ _ _ _ w s0 s1 s2 s3 c0 c1 c2 c3 (fun w => add64 _ _ 0 _ _ (by omega) p0 q0 w) (fun w => add64 _ _ _ _ _ k0 p1 q1 w) (fun w => add64 _ _ _ _ _ k1 p2 q2 w) (fun w => add64 _ _ _ _ _ k2 p3 q3 w)
  · clear p0 p1 p2 p3 q0 q1 q2 q3; omega
  · clear p0 p1 p2 p3 q0 q1 q2 q3; omega

/-- limbs.Sub -/
theorem sub_ex (X Y : Nat) (hX : X < 2 ^ 256) (hY : Y < 2 ^ 256) : ∃ S c : Nat, S < 2 ^ 256 ∧ c ≤ 1 ∧ X + 2 ^ 256 * c = S + Y ∧
    ∀ w, Calls Try.prog 53 #[num X, num Y] w fun e w' => e = .returned (.tuple #[num S, .int .u64 (c : Nat)]) ∧ Below w.heap.size w w' := by
  obtain ⟨s0, c0, l0, k0, e0, p0, q0⟩ := sub_step (wd X 0) (wd Y 0) 0 (wd_lt _ _) (wd_lt _ _) (by omega)
  obtain ⟨s1, c1, l1, k1, e1, p1, q1⟩ := sub_step (wd X 1) (wd Y 1) c0 (wd_lt _ _) (wd_lt _ _) (by omega)
  obtain ⟨s2, c2, l2, k2, e2, p2, q2⟩ := sub_step (wd X 2) (wd Y 2) c1 (wd_lt _ _) (wd_lt _ _) (by omega)
  obtain ⟨s3, c3, l3, k3, e3, p3, q3⟩ := sub_step (wd X 3) (wd Y 3) c2 (wd_lt _ _) (wd_lt _ _) (by omega)
  have sX := wd_sum X hX
  have sY := wd_sum Y hY
  obtain ⟨S, hS⟩ : ∃ S, S = s0 + 18446744073709551616 * s1 + 340282366920938463463374607431768211456 * s2 + 6277101735386680763835789423207666416102355444464034512896 * s3 := ⟨_, rfl⟩
  refine ⟨S, c3, ?_, k3, ?_, fun w => ?_⟩
  rotate_left 2
  · rw [← num_of s0 s1 s2 s3 l0 l1 l2 l3 S hS]
    exact sub_words _ _ _ _ _ _ _ _ w s0 s1 s2 s3 c0 c1 c2 c3 (fun w => sub64 _ _ 0 _ _ (by omega) p0 q0 w) (fun w => sub64 _ _ _ _ _ k0 p1 q1 w) (fun w => sub64 _ _ _ _ _ k1 p2 q2 w) (fun w => sub64 _ _ _ _ _ k2 p3 q3 w)
  · clear p0 p1 p2 p3 q0 q1 q2 q3; omega
  · clear p0 p1 p2 p3 q0 q1 q2 q3; omega
end Go.Proofs.Ytmhmdbjjmmmgkaa
