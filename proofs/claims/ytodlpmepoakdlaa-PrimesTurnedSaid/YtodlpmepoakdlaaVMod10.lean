/-
  mods.inverse: Euclid's search.
-/
import Derived.Deep.DeepCutAuto
import Derived.Test.YtodlpmepoakdlaaVCommon
import Derived.Test.YtodlpmepoakdlaaVMod1
import Derived.Test.YtodlpmepoakdlaaVModE
import Derived.Test.YtodlpmepoakdlaaVMult
import Derived.Test.YtodlpmepoakdlaaVSmall
namespace Go.Proofs.Ytodlpmepoakdlaa
set_option maxRecDepth 100000
open Go.RowKit
set_option linter.unusedSimpArgs false
set_option linter.unusedVariables false
attribute [local go_sem ↓] Go.wp_at_zero Go.wp_at_succ

end Go.Proofs.Ytodlpmepoakdlaa
