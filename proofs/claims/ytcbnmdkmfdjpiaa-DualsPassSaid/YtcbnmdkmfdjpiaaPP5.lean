import Derived.Deep.Cut
import Derived.Maps.OwnSet
import Derived.WideKeyRuns
import Derived.Test.YtcbnmdkmfdjpiaaPP3
import Derived.Test.YtcbnmdkmfdjpiaaPShort
namespace Go.Proofs.Ytcbnmdkmfdjpiaa
set_option maxRecDepth 100000
open Go.RowKit
set_option linter.unusedSimpArgs false
set_option linter.unusedVariables false
attribute [local go_sem ↓] Go.wp_at_zero Go.wp_at_succ

theorem RN.call {n0:Nat} {w0 w:World} {a:Option Addr} {n cap:Nat} {xs:List Nat} (h:RN n0 w0 a n cap xs) (hb:Below n0 w0 w) (hn:n0≤w.heap.size):RN w.heap.size w a n cap xs:=⟨h.1,(h.2.below hb).up hn⟩
def MapIs (w:World) (b:Nat) (ys:List Nat):Prop:=∃ (es:Array MapEntry) (clock:Nat),w.heap[b]? = some (.map es clock)∧es.toList.map (·.key)=ys.map fun y=>num y
theorem MapIs.on {w w':World} {b:Nat} {ys:List Nat} (h:MapIs w b ys) (hb:Below w.heap.size w w'):MapIs w' b ys:=by
 obtain ⟨es,c,h1,h2⟩:=h
 exact ⟨es,c,(hb.block b (Array.getElem?_eq_some_iff.1 h1).1).trans h1,h2⟩
def ptsB (Q:Nat) (xs:List Nat):Bool:=decide (xs≠[]) && decide xs.Nodup && Jcw Q xs
section
variable {ops:Array Oper} {Q:Exit→Act→World→Prop} {a:Act} {w w0:World} {rest:List Oper} {o:Oper} {N:Nat} {L:List (Nat × Value)} {df:List Deferred} {dst:Option Tmp} {x y z:Operand} {ty:TypeId} {pos:String} {after:Array Edge} {gd:Option (Nat × Bool)} {ρ:Operand→Value}
end
end Go.Proofs.Ytcbnmdkmfdjpiaa
