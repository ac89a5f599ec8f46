/-
 balefireref04: sums, differences, products as mods does them.
-/
import Derived.Test.YtodlpmepoakdlaaMMod7
import Derived.Test.YtodlpmepoakdlaaMRbits
import Derived.Test.YtodlpmepoakdlaaMRefA
import Derived.Test.YtodlpmepoakdlaaMTree
namespace Go.Proofs.Ytodlpmepoakdlaa
set_option maxRecDepth 100000
open Go.RowKit
set_option linter.unusedSimpArgs false
set_option linter.unusedVariables false
attribute [local go_sem ↓] Go.wp_at_zero Go.wp_at_succ

theorem may_no (A B M : Nat) (hA : A < 2 ^ 256) (hB : B < 2 ^ 256) (hM : M < 2 ^ 256) (h : ¬ (1 < M ∧ A < M ∧ B < M)) : ∀ w, Calls Try.prog 58 #[num A, num B, num M] w fun e w' => e = .returned (.bool false) ∧ Below w.heap.size w w' := by
 have MY := may_any A B M hA hB hM
 rw [show decide (1 < M ∧ A < M ∧ B < M) = false from decide_eq_false h] at MY
 exact MY
theorem ra_no (A B M : Nat) (hA : A < 2 ^ 256) (hB : B < 2 ^ 256) (hM : M < 2 ^ 256) (h : ¬ (1 < M ∧ A < M ∧ B < M)) : ∀ w, Calls Try.prog 37 #[num A, num B, num M] w fun e w' => e = .returned (.tuple #[num (0), .int .i64 1]) ∧ Below w.heap.size w w' := fun w => radd4_no A B M (may_no A B M hA hB hM h) w
theorem rs_no (A B M : Nat) (hA : A < 2 ^ 256) (hB : B < 2 ^ 256) (hM : M < 2 ^ 256) (h : ¬ (1 < M ∧ A < M ∧ B < M)) : ∀ w, Calls Try.prog 38 #[num A, num B, num M] w fun e w' => e = .returned (.tuple #[num (0), .int .i64 1]) ∧ Below w.heap.size w w' := fun w => rsub4_no A B M (may_no A B M hA hB hM h) w
theorem rm_no (A B M : Nat) (hA : A < 2 ^ 256) (hB : B < 2 ^ 256) (hM : M < 2 ^ 256) (h : ¬ (1 < M ∧ A < M ∧ B < M)) : ∀ w, Calls Try.prog 39 #[num A, num B, num M] w fun e w' => e = .returned (.tuple #[num (0), .int .i64 1]) ∧ Below w.heap.size w w' := fun w => rmul4_no A B M (may_no A B M hA hB hM h) w
theorem rs_yes (A B M : Nat) (hM : M < 2 ^ 256) (h1 : 1 < M) (hA : A < M) (hB : B < M) : ∀ w, Calls Try.prog 38 #[num A, num B, num M] w fun e w' => e = .returned (.tuple #[num ((A + M - B) % M), .int .i64 0]) ∧ Below w.heap.size w w' := by
 have MY := may_any A B M (by omega) (by omega) hM
 rw [show decide (1 < M ∧ A < M ∧ B < M) = true from decide_eq_true ⟨h1, hA, hB⟩] at MY
 obtain ⟨S, c, hS, hc, he, _⟩ := sub_ex A B (by omega) (by omega)
 have C := rsub_any A B S c (by omega) (by omega) hS hc he
 have h01 : c = 0 ∨ c = 1 := by omega
 rcases h01 with rfl | rfl
 ·rw [show (A + M - B) % M = S by rw [show A + M - B = S + M by omega, Nat.add_mod_right, Nat.mod_eq_of_lt (by omega)]]
  exact fun w => rsub4_a A B M S MY C w
 ·obtain ⟨L, d, hL, hd, he2, _⟩ := add_ex S M hS hM
  have C2 := radd_any S M L d hS hM hL hd he2
  rw [show (A + M - B) % M = L by rw [Nat.mod_eq_of_lt (by omega)]; omega]
  exact fun w => rsub4_b A B M S L d MY C C2 w
theorem ra_yes (A B M : Nat) (hM : M < 2 ^ 256) (h1 : 1 < M) (hA : A < M) (hB : B < M) : ∀ w, Calls Try.prog 37 #[num A, num B, num M] w fun e w' => e = .returned (.tuple #[num ((A + B) % M), .int .i64 0]) ∧ Below w.heap.size w w' := by
 have MY := may_any A B M (by omega) (by omega) hM
 rw [show decide (1 < M ∧ A < M ∧ B < M) = true from decide_eq_true ⟨h1, hA, hB⟩] at MY
 obtain ⟨S, c, hS, hc, he, _⟩ := add_ex A B (by omega) (by omega)
 have C := radd_any A B S c (by omega) (by omega) hS hc he
 obtain ⟨L, d, hL, hd, he2, _⟩ := sub_ex S M hS hM
 have C2 := rsub_any S M L d hS hM hL hd he2
 have h01 : c = 0 ∨ c = 1 := by omega
 rcases h01 with rfl | rfl
 ·have KC := rcmp_any S M hS hM
  by_cases hlt : S < M
  ·rw [show (A + B) % M = S by rw [show A + B = S by omega, Nat.mod_eq_of_lt hlt]]
   exact fun w => radd4_lt A B M S _ (cmpN_neg hlt) MY C KC w
  ·rw [show (A + B) % M = L by rw [show A + B = L + M by omega, Nat.add_mod_right, Nat.mod_eq_of_lt (by omega)]]
   exact fun w => radd4_ge A B M S L d _ (cmpN_ge (by omega)) MY C KC C2 w
 ·rw [show (A + B) % M = L by rw [show A + B = L + M by omega, Nat.add_mod_right, Nat.mod_eq_of_lt (by omega)]]
  exact fun w => radd4_over A B M S L d MY C C2 w
theorem w0_of (X : Nat) (h : X < 18446744073709551616) : wd X 0 = X := by unfold wd; rw [Nat.pow_zero, Nat.div_one, Nat.mod_eq_of_lt h]
theorem mul64_any (a b : Nat) (ha : a < 18446744073709551616) (hb : b < 18446744073709551616) (w : World) : Calls Try.prog 77 #[.int .u64 (a : Nat), .int .u64 (b : Nat)] w fun e w' => e = .returned (.tuple #[.int .u64 ((a * b / 18446744073709551616 : Nat) : Int), .int .u64 ((a * b % 18446744073709551616 : Nat) : Int)]) ∧ Below w.heap.size w w' := (mul64 a b ha hb w).mono fun e w' ⟨he, hw⟩ => ⟨he, by rw [← hw]; exact Below.refl _ _⟩
theorem rt_any (A B M : Nat) (hA : A < M) (hB : B < M) (hM : M < 2 ^ 256) (h1 : 1 < M) : ∀ w, Calls Try.prog 61 #[num A, num B, num M] w fun e w' => e = .returned (num (A * B % M)) ∧ Below w.heap.size w w' := by
 have W := rword_any M hM
 by_cases hm : M < 18446744073709551616
 ·rw [show decide (M < 18446744073709551616) = true from decide_eq_true hm] at W
  have X := mul64_any (wd A 0) (wd B 0) (wd_lt _ _) (wd_lt _ _)
  rw [w0_of A (by omega), w0_of B (by omega)] at X
  have hlt : A * B / 18446744073709551616 < M := by
   refine Nat.div_lt_of_lt_mul ?_
   have : A * B < M * M := Nat.mul_lt_mul'' hA hB
   have : M * M ≤ 18446744073709551616 * M := Nat.mul_le_mul_right _ (by omega)
   omega
  have D := div64_any (A * B / 18446744073709551616) (A * B % 18446744073709551616) M hlt hm (Nat.mod_lt _ (by decide))
  rw [show A * B / 18446744073709551616 * 18446744073709551616 + A * B % 18446744073709551616 = A * B by rw [Nat.mul_comm]; exact Nat.div_add_mod _ _] at D
  have R := rof1_any (A * B % M) (Nat.lt_trans (Nat.mod_lt _ (by omega)) hm)
  intro w
  refine times4_w A B M (A * B / 18446744073709551616) (A * B % 18446744073709551616) (A * B / M) (A * B % M) W (fun w => ?_) (fun w => ?_) R w
  ·rw [w0_of A (by omega), w0_of B (by omega)]; exact X w
  ·rw [w0_of M hm]; exact D w
 ·rw [show decide (M < 18446744073709551616) = false from decide_eq_false hm] at W
  obtain ⟨L, H, hL, hH, he, _⟩ := mul_ex A B (by omega) (by omega)
  have MM := rmul_any A B L H (by omega) (by omega) hL hH he
  have WD := rwide_long L H M hL hH hM (by omega) (fun w => by rw [eqZ M hM]; simp; omega) (by have W2 := rword_any M hM; rw [show decide (M < 18446744073709551616) = false from decide_eq_false hm] at W2; exact W2)
  rw [show wide H L % M = A * B % M by unfold wide; rw [he, Nat.add_comm, Nat.mul_comm]] at WD
  exact fun w => times4_l A B M L H _ W MM WD w
theorem rm_yes (A B M : Nat) (hM : M < 2 ^ 256) (h1 : 1 < M) (hA : A < M) (hB : B < M) : ∀ w, Calls Try.prog 39 #[num A, num B, num M] w fun e w' => e = .returned (.tuple #[num (A * B % M), .int .i64 0]) ∧ Below w.heap.size w w' := by
 have MY := may_any A B M (by omega) (by omega) hM
 rw [show decide (1 < M ∧ A < M ∧ B < M) = true from decide_eq_true ⟨h1, hA, hB⟩] at MY
 exact fun w => rmul4_y A B M _ MY (rt_any A B M hA hB hM h1) w
end Go.Proofs.Ytodlpmepoakdlaa

/-
 balefireref04: powers.
-/
namespace Go.Proofs.Ytodlpmepoakdlaa
set_option maxRecDepth 100000
open Go.RowKit
set_option linter.unusedSimpArgs false
set_option linter.unusedVariables false
attribute [local go_sem ↓] Go.wp_at_zero Go.wp_at_succ

end Go.Proofs.Ytodlpmepoakdlaa

/-
 balefireref04.Exp.
-/
namespace Go.Proofs.Ytodlpmepoakdlaa
set_option maxRecDepth 100000
open Go.RowKit
set_option linter.unusedSimpArgs false
set_option linter.unusedVariables false
attribute [local go_sem ↓] Go.wp_at_zero Go.wp_at_succ

end Go.Proofs.Ytodlpmepoakdlaa
