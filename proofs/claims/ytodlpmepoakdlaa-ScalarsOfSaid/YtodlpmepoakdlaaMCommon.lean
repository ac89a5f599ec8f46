/-
 divides.Common: by Euclid.
-/
import Derived.Test.YtodlpmepoakdlaaMTree
import Derived.Test.YtodlpmepoakdlaaMWide
namespace Go.Proofs.Ytodlpmepoakdlaa
set_option maxRecDepth 100000
open Go.RowKit
set_option linter.unusedSimpArgs false
set_option linter.unusedVariables false
attribute [local go_sem ↓] Go.wp_at_zero Go.wp_at_succ

/-- what a block of words tells -/
def blockVal (w : World) (g : Nat) : Nat := match w.heap[g]? with
 | some (.cells cs _ _) => (intOf (cs.getD 0 undef)).toNat + 18446744073709551616 * (intOf (cs.getD 1 undef)).toNat + 340282366920938463463374607431768211456 * (intOf (cs.getD 2 undef)).toNat + 6277101735386680763835789423207666416102355444464034512896 * (intOf (cs.getD 3 undef)).toNat
 | _ => 0
theorem At.val {w : World} {g X : Nat} {t : TypeId} (hX : X < 2 ^ 256) (h : At w g t #[.int .u64 (wd X 0 : Nat), .int .u64 (wd X 1 : Nat), .int .u64 (wd X 2 : Nat), .int .u64 (wd X 3 : Nat)]) : blockVal w g = X := by
 unfold At at h
 unfold blockVal
 rw [h]
 have := wd_sum X hX
 simp [intOf]
 omega

end Go.Proofs.Ytodlpmepoakdlaa
