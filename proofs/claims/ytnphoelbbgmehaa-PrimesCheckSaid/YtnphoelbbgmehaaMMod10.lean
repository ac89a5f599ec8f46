/-
 mods.inverse: Euclid's search.
-/
import Derived.Deep.DeepCutAuto
import Derived.Test.YtnphoelbbgmehaaMAdd
import Derived.Test.YtnphoelbbgmehaaMMod1
import Derived.Test.YtnphoelbbgmehaaMRCommon
import Derived.Test.YtnphoelbbgmehaaMRCore2
namespace Go.Proofs.Ytnphoelbbgmehaa
set_option maxRecDepth 100000
open Go.RowKit
set_option linter.unusedSimpArgs false
set_option linter.unusedVariables false
attribute [local go_sem ↓] Go.wp_at_zero Go.wp_at_succ

end Go.Proofs.Ytnphoelbbgmehaa
