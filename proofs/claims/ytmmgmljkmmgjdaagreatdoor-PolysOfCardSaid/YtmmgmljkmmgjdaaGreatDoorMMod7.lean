import Derived.Test.YtmmgmljkmmgjdaaGreatDoorMBehN
import Derived.Test.YtmmgmljkmmgjdaaGreatDoorMMod6
import Derived.Test.YtmmgmljkmmgjdaaGreatDoorMTree
namespace Go.Proofs.YtmmgmljkmmgjdaaGreatDoor
set_option maxRecDepth 100000
open Go.RowKit
set_option linter.unusedSimpArgs false
set_option linter.unusedVariables false
attribute [local go_sem ↓] Go.wp_at_zero Go.wp_at_succ

end Go.Proofs.YtmmgmljkmmgjdaaGreatDoor
