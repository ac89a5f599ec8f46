/-
  mods.raise: any power; mods.Exp.
-/
import Derived.Test.YtodlpmepoakdlaaWMod2
import Derived.Test.YtodlpmepoakdlaaWMod7
import Derived.Test.YtodlpmepoakdlaaWShort
namespace Go.Proofs.Ytodlpmepoakdlaa
set_option maxRecDepth 100000
open Go.RowKit
set_option linter.unusedSimpArgs false
set_option linter.unusedVariables false
attribute [local go_sem ↓] Go.wp_at_zero Go.wp_at_succ

/-- what stands for x, of an odd M -/
def stO (M x : Nat) : Nat := x * 2 ^ 256 % M
end Go.Proofs.Ytodlpmepoakdlaa
