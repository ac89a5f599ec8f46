/-
  divides.step: one bit more of a division.
-/
import Derived.Test.YtmhmdbjjmmmgkaaStepW
namespace Go.Proofs.Ytmhmdbjjmmmgkaa
open Go.RowKit
set_option linter.unusedSimpArgs false
set_option linter.unusedVariables false

theorem sum4 (x0 x1 x2 x3 y0 y1 y2 y3 s0 s1 s2 s3 b c0 c1 c2 c3 X Y S : Nat) (e0 : x0 + y0 + b = s0 + 18446744073709551616 * c0) (e1 : x1 + y1 + c0 = s1 + 18446744073709551616 * c1)
    (e2 : x2 + y2 + c1 = s2 + 18446744073709551616 * c2) (e3 : x3 + y3 + c2 = s3 + 18446744073709551616 * c3)
    (hX : X = x0 + 18446744073709551616 * x1 + 340282366920938463463374607431768211456 * x2 + 6277101735386680763835789423207666416102355444464034512896 * x3)
    (hY : Y = y0 + 18446744073709551616 * y1 + 340282366920938463463374607431768211456 * y2 + 6277101735386680763835789423207666416102355444464034512896 * y3)
    (hS : S = s0 + 18446744073709551616 * s1 + 340282366920938463463374607431768211456 * s2 + 6277101735386680763835789423207666416102355444464034512896 * s3) : X + Y + b = S + 2 ^ 256 * c3 := by omega
theorem word4 (s0 s1 s2 s3 S : Nat) (h0 : s0 < 18446744073709551616) (h1 : s1 < 18446744073709551616) (h2 : s2 < 18446744073709551616) (h3 : s3 < 18446744073709551616)
    (hS : S = s0 + 18446744073709551616 * s1 + 340282366920938463463374607431768211456 * s2 + 6277101735386680763835789423207666416102355444464034512896 * s3) : S < 2 ^ 256 := by omega

/-- divides.step -/
theorem step_ex (R B bit : Nat) (hR : R < B) (hB : B < 2 ^ 256) (hb : bit ≤ 1) : ∃ L t : Nat, L < B ∧ t ≤ 1 ∧ 2 * R + bit = t * B + L ∧
    ∀ w, Calls Try.prog 61 #[num R, num B, .int .u64 (bit : Nat)] w fun e w' => e = .returned (.tuple #[num L, .int .u64 (t : Nat)]) ∧ Below w.heap.size w w' := by
  obtain ⟨s0, c0, l0, k0, e0, p0, q0⟩ := add_step (wd R 0) (wd R 0) bit (wd_lt _ _) (wd_lt _ _) hb
  obtain ⟨s1, c1, l1, k1, e1, p1, q1⟩ := add_step (wd R 1) (wd R 1) c0 (wd_lt _ _) (wd_lt _ _) (by omega)
  obtain ⟨s2, c2, l2, k2, e2, p2, q2⟩ := add_step (wd R 2) (wd R 2) c1 (wd_lt _ _) (wd_lt _ _) (by omega)
  obtain ⟨s3, c3, l3, k3, e3, p3, q3⟩ := add_step (wd R 3) (wd R 3) c2 (wd_lt _ _) (wd_lt _ _) (by omega)
  obtain ⟨d0, f0, m0, n0, g0, u0, v0⟩ := sub_step s0 (wd B 0) 0 l0 (wd_lt _ _) (by omega)
  obtain ⟨d1, f1, m1, n1, g1, u1, v1⟩ := sub_step s1 (wd B 1) f0 l1 (wd_lt _ _) (by omega)
  obtain ⟨d2, f2, m2, n2, g2, u2, v2⟩ := sub_step s2 (wd B 2) f1 l2 (wd_lt _ _) (by omega)
  obtain ⟨d3, f3, m3, n3, g3, u3, v3⟩ := sub_step s3 (wd B 3) f2 l3 (wd_lt _ _) (by omega)
  have C := fun w => step_words (wd R 0) (wd R 1) (wd R 2) (wd R 3) (wd B 0) (wd B 1) (wd B 2) (wd B 3) bit w s0 s1 s2 s3 c0 c1 c2 c3 d0 d1 d2 d3 f0 f1 f2 f3 (fun w => add64 _ _ _ _ _ hb p0 q0 w) (fun w => add64 _ _ _ _ _ k0 p1 q1 w) (fun w => add64 _ _ _ _ _ k1 p2 q2 w) (fun w => add64 _ _ _ _ _ k2 p3 q3 w)
    (fun w => sub64 _ _ 0 _ _ (by omega) u0 v0 w) (fun w => sub64 _ _ _ _ _ n0 u1 v1 w) (fun w => sub64 _ _ _ _ _ n1 u2 v2 w) (fun w => sub64 _ _ _ _ _ n2 u3 v3 w)
  clear p0 p1 p2 p3 q0 q1 q2 q3 u0 u1 u2 u3 v0 v1 v2 v3
  have sR := wd_sum R (Nat.lt_trans hR hB)
  have sB := wd_sum B hB
  obtain ⟨S, hS⟩ : ∃ S, S = s0 + 18446744073709551616 * s1 + 340282366920938463463374607431768211456 * s2 + 6277101735386680763835789423207666416102355444464034512896 * s3 := ⟨_, rfl⟩
  obtain ⟨D, hD⟩ : ∃ D, D = d0 + 18446744073709551616 * d1 + 340282366920938463463374607431768211456 * d2 + 6277101735386680763835789423207666416102355444464034512896 * d3 := ⟨_, rfl⟩
  rw [num_of s0 s1 s2 s3 l0 l1 l2 l3 S hS, num_of d0 d1 d2 d3 m0 m1 m2 m3 D hD] at C
  have r1 : R + R + bit = S + 2 ^ 256 * c3 := sum4 _ _ _ _ _ _ _ _ _ _ _ _ _ _ _ _ _ _ _ _ e0 e1 e2 e3 sR sR hS
  have r2 : D + B + 0 = S + 2 ^ 256 * f3 := sum4 _ _ _ _ _ _ _ _ _ _ _ _ _ _ _ _ _ _ _ _ g0.symm g1.symm g2.symm g3.symm hD sB hS
  have r3 : S < 2 ^ 256 := word4 _ _ _ _ _ l0 l1 l2 l3 hS
  have r4 : D < 2 ^ 256 := word4 _ _ _ _ _ m0 m1 m2 m3 hD
  clear sR sB hS hD e0 e1 e2 e3 g0 g1 g2 g3 l0 l1 l2 l3 m0 m1 m2 m3 k0 k1 k2 n0 n1 n2
  by_cases h : c3 < f3
  · rw [if_pos h] at C
    refine ⟨S, 0, ?_, by omega, ?_, C⟩
    · clear C; omega
    · clear C; omega
  · rw [if_neg h] at C
    refine ⟨D, 1, ?_, by omega, ?_, C⟩
    · clear C; omega
    · clear C; omega
end Go.Proofs.Ytmhmdbjjmmmgkaa
