import Derived.Deep.Cut
import Derived.Test.YtcbnmdkmfdjpiaaPCell
import Derived.Test.YtcbnmdkmfdjpiaaPShort
import Derived.Test.YtcbnmdkmfdjpiaaPSxS
namespace Go.Proofs.Ytcbnmdkmfdjpiaa
set_option maxRecDepth 100000
open Go.RowKit
set_option linter.unusedSimpArgs false
set_option linter.unusedVariables false
attribute [local go_sem ↓] Go.wp_at_zero Go.wp_at_succ

section
variable {x y z:Operand} {dst:Option Tmp} {ty:TypeId} {pos:String} {after:Array Edge} {guard:Option (Nat × Bool)} {ρ:Operand→Value} {w:World} {g:Nat}
end
end Go.Proofs.Ytcbnmdkmfdjpiaa
