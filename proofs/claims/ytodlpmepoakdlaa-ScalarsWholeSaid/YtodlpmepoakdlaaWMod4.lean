/-
  mods: the function values of both ways.
-/
import Derived.Test.YtodlpmepoakdlaaWClos
import Derived.Test.YtodlpmepoakdlaaWMod2
import Derived.Test.YtodlpmepoakdlaaWShort
namespace Go.Proofs.Ytodlpmepoakdlaa
set_option maxRecDepth 100000
open Go.RowKit
set_option linter.unusedSimpArgs false
set_option linter.unusedVariables false
attribute [local go_sem ↓] Go.wp_at_zero Go.wp_at_succ

end Go.Proofs.Ytodlpmepoakdlaa
