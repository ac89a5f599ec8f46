import Derived.Deep.Cut
import Derived.Test.YtcbnmdkmfdjpiaaPDu13
import Derived.Test.YtcbnmdkmfdjpiaaPShort
namespace Go.Proofs.Ytcbnmdkmfdjpiaa
set_option maxRecDepth 100000
open Go.RowKit
set_option linter.unusedSimpArgs false
set_option linter.unusedVariables false
attribute [local go_sem ↓] Go.wp_at_zero Go.wp_at_succ

def lst (ps:List Nat):Nat→Nat
 | 0=>1
 | i+1=>if ps.getD i 0=0 then lst ps i else i+1
end Go.Proofs.Ytcbnmdkmfdjpiaa
