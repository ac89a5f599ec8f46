/-
  limbs.Mul, as numbers; limbs.Bits.
-/
import Derived.Test.YtmhmdbjjmmmgkaaMulW
import Derived.Test.YtmhmdbjjmmmgkaaShift2
namespace Go.Proofs.Ytmhmdbjjmmmgkaa
open Go.RowKit
set_option linter.unusedSimpArgs false
set_option linter.unusedVariables false
attribute [local go_sem ↓] Go.wp_at_zero Go.wp_at_succ

/-- limbs.Mul -/
theorem mul_ex (X Y : Nat) (hX : X < 2 ^ 256) (hY : Y < 2 ^ 256) : ∃ L H : Nat, L < 2 ^ 256 ∧ H < 2 ^ 256 ∧ X * Y = L + 2 ^ 256 * H ∧
    ∀ w, Calls Try.prog 31 #[num X, num Y] w fun e w' => e = .returned (.tuple #[num L, num H]) ∧ Below w.heap.size w w' := by
  refine ⟨X * Y % 2 ^ 256, X * Y / 2 ^ 256, Nat.mod_lt _ (by decide), ?_, by omega, fun w => (mul_words X Y hX hY w).mono ?_⟩
  · have : X * Y < 2 ^ 256 * 2 ^ 256 := Nat.mul_lt_mul'' hX hY
    exact Nat.div_lt_of_lt_mul this
  rintro e w' ⟨L, hl, hb, hv, rfl, bel⟩
  match L, hl with
  | [l0, l1, l2, l3, l4, l5, l6, l7], _ =>
    simp only [List.mem_cons, List.not_mem_nil, or_false, forall_eq_or_imp, forall_eq] at hb
    obtain ⟨h0, h1, h2, h3, h4, h5, h6, h7⟩ := hb
    simp only [lv, Nat.mul_zero, Nat.add_zero] at hv
    generalize X * Y = P at *
    refine ⟨?_, bel⟩
    have e1 : (.agg (ws ([l0, l1, l2, l3, l4, l5, l6, l7].take 4)) : Value) = num (P % 2 ^ 256) := num_of l0 l1 l2 l3 h0 h1 h2 h3 _ (by omega)
    have e2 : (.agg (ws ([l0, l1, l2, l3, l4, l5, l6, l7].drop 4)) : Value) = num (P / 2 ^ 256) := num_of l4 l5 l6 l7 h4 h5 h6 h7 _ (by omega)
    rw [e1, e2]
end Go.Proofs.Ytmhmdbjjmmmgkaa
