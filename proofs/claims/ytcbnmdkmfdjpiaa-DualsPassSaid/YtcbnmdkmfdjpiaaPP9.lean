import Derived.Deep.Cut
import Derived.Test.YtcbnmdkmfdjpiaaPP8
import Derived.Test.YtcbnmdkmfdjpiaaPShort
namespace Go.Proofs.Ytcbnmdkmfdjpiaa
set_option maxRecDepth 100000
open Go.RowKit
set_option linter.unusedSimpArgs false
set_option linter.unusedVariables false
attribute [local go_sem ↓] Go.wp_at_zero Go.wp_at_succ

section
variable {P:Program} {ops:Array Oper} {Q:Exit→Act→World→Prop} {a:Act} {W:World} {cores:List Core}
end
section
variable {x y:Operand} {dst:Option Tmp} {ty:TypeId} {pos:String} {after:Array Edge} {guard:Option (Nat × Bool)} {ρ:Operand→Value} {w:World} {g:Nat}
end
def AllD (Q:Nat) (xs:List Nat):Prop:=(zs xs).Pairwise fun a b=>U Q (b-a)
def TS (Q:Nat) (xs vs ps:List Nat):Prop:=ps.length=xs.length∧(∀ c∈ps,c<Q)∧∀ (i x v:Nat),xs[i]? = some x→vs[i]? = some v→Cg Q (evZ (zs ps) (x:Int)) (v:Int)
def thrB (Q:Nat) (xs vs:List Nat):Bool:=decide (vs.length=xs.length) && Jcw Q vs && ptsB Q xs
end Go.Proofs.Ytcbnmdkmfdjpiaa
