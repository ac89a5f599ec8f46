/-
  A long number is equal to itself; limbs.Of(0), Of(1).
-/
import Derived.Test.YtmhmdbjjmmmgkaaCmp
namespace Go.Proofs.Ytmhmdbjjmmmgkaa
open Go.RowKit
set_option linter.unusedSimpArgs false
set_option linter.unusedVariables false

theorem eqY (X : Nat) (w : World) : (Op.equalIn 10000 24 (num X) (num X)).run Try.prog w = .ok true w := by rw [eqW]; simp
theorem of0N (w : World) : Calls Try.prog 54 #[.int .u64 0] w fun e w' => e = .returned (num 0) ∧ Below w.heap.size w w' := of_any 0 (by omega) w
theorem of1N (w : World) : Calls Try.prog 54 #[.int .u64 1] w fun e w' => e = .returned (num 1) ∧ Below w.heap.size w w' := of_any 1 (by omega) w
end Go.Proofs.Ytmhmdbjjmmmgkaa
