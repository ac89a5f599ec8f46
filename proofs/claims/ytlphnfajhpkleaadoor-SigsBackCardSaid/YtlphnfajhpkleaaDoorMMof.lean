/-
 balefireref02.of: a long number out of its sixteen digits.
-/
import Derived.Laws.BitsAllLaws
import Derived.LoopN
import Derived.Test.YtlphnfajhpkleaaDoorMBehN
import Derived.Test.YtlphnfajhpkleaaDoorMBehind
import Derived.Test.YtlphnfajhpkleaaDoorMByNumber
import Derived.Test.YtlphnfajhpkleaaDoorMCell
import Derived.Test.YtlphnfajhpkleaaDoorMCoreH
import Derived.Test.YtlphnfajhpkleaaDoorMGInvT
import Derived.Test.YtlphnfajhpkleaaDoorMMod7
import Derived.Test.YtlphnfajhpkleaaDoorMSmall
namespace Go.Proofs.YtlphnfajhpkleaaDoor
set_option maxRecDepth 100000
open Go.RowKit
set_option linter.unusedSimpArgs false
set_option linter.unusedVariables false
attribute [local go_sem ↓] Go.wp_at_zero Go.wp_at_succ

/-- what memory holds while digits are put together -/
structure OW (wr w:World) (P:Nat):Prop where
 res:At wr w.heap.size 24 #[.int .u64 0,.int .u64 0,.int .u64 0,.int .u64 0]
 a:At wr (w.heap.size+1) 24 (ncs P)
 bel:Below w.heap.size w wr

end Go.Proofs.YtlphnfajhpkleaaDoor

/-
 balefireref02.Bit.
-/
namespace Go.Proofs.YtlphnfajhpkleaaDoor
set_option maxRecDepth 100000
open Go.RowKit
set_option linter.unusedSimpArgs false
set_option linter.unusedVariables false
attribute [local go_sem ↓] Go.wp_at_zero Go.wp_at_succ

end Go.Proofs.YtlphnfajhpkleaaDoor

/-
 balefireref02.RAdd: digit by digit.
-/
namespace Go.Proofs.YtlphnfajhpkleaaDoor
set_option maxRecDepth 100000
open Go.RowKit
set_option linter.unusedSimpArgs false
set_option linter.unusedVariables false
attribute [local go_sem ↓] Go.wp_at_zero Go.wp_at_succ

/-- what the document's call tells -/
def raddRes (X Y:Nat) (e:Ending):Prop:=∃ S c:Nat,e=.returned (.tuple #[num S,.int .u64 (c:Nat)])∧S+65536^16*c=X+Y∧S<65536^16∧c≤1
end Go.Proofs.YtlphnfajhpkleaaDoor

/-
 balefireref02.RSub: digit by digit.
-/
namespace Go.Proofs.YtlphnfajhpkleaaDoor
set_option maxRecDepth 100000
open Go.RowKit
set_option linter.unusedSimpArgs false
set_option linter.unusedVariables false
attribute [local go_sem ↓] Go.wp_at_zero Go.wp_at_succ

/-- what the document's call tells -/
def rsubRes (X Y:Nat) (e:Ending):Prop:=∃ S c:Nat,e=.returned (.tuple #[num S,.int .u64 (c:Nat)])∧S+Y=X+65536^16*c∧S<65536^16∧c≤1
end Go.Proofs.YtlphnfajhpkleaaDoor

/-
 balefireref02.Of,Cmp: digit by digit,from the highest on.
-/
namespace Go.Proofs.YtlphnfajhpkleaaDoor
set_option maxRecDepth 100000
open Go.RowKit
set_option linter.unusedSimpArgs false
set_option linter.unusedVariables false
attribute [local go_sem ↓] Go.wp_at_zero Go.wp_at_succ

end Go.Proofs.YtlphnfajhpkleaaDoor

/-
 balefireref03.twice: one bit more.
-/
namespace Go.Proofs.YtlphnfajhpkleaaDoor
set_option maxRecDepth 100000
open Go.RowKit
set_option linter.unusedSimpArgs false
set_option linter.unusedVariables false
attribute [local go_sem ↓] Go.wp_at_zero Go.wp_at_succ

end Go.Proofs.YtlphnfajhpkleaaDoor

/-
 balefireref03.Word: is it one of 64 bits?
-/
namespace Go.Proofs.YtlphnfajhpkleaaDoor
set_option maxRecDepth 100000
open Go.RowKit
set_option linter.unusedSimpArgs false
set_option linter.unusedVariables false
attribute [local go_sem ↓] Go.wp_at_zero Go.wp_at_succ

end Go.Proofs.YtlphnfajhpkleaaDoor

/-
 balefireref03.Div: bit by bit;of one word at once.
-/
namespace Go.Proofs.YtlphnfajhpkleaaDoor
set_option maxRecDepth 100000
open Go.RowKit
set_option linter.unusedSimpArgs false
set_option linter.unusedVariables false
attribute [local go_sem ↓] Go.wp_at_zero Go.wp_at_succ

end Go.Proofs.YtlphnfajhpkleaaDoor

/-
 The numbers behind LimbsBits.
-/
namespace Go.Proofs.YtlphnfajhpkleaaDoor
set_option maxRecDepth 100000
open Go.RowKit
set_option linter.unusedSimpArgs false
set_option linter.unusedVariables false

theorem bl_spec (X:Nat):X<2^Go.bitLen X∧(X≠0→2^(Go.bitLen X-1)≤X):=Go.bitLen_spec X
end Go.Proofs.YtlphnfajhpkleaaDoor

/-
 balefireref02.Bits.
-/
namespace Go.Proofs.YtlphnfajhpkleaaDoor
set_option maxRecDepth 100000
open Go.RowKit
set_option linter.unusedSimpArgs false
set_option linter.unusedVariables false
attribute [local go_sem ↓] Go.wp_at_zero Go.wp_at_succ

end Go.Proofs.YtlphnfajhpkleaaDoor

/-
 balefireref03.Wide,of more than one word: bit by bit.
-/
namespace Go.Proofs.YtlphnfajhpkleaaDoor
set_option maxRecDepth 100000
open Go.RowKit
set_option linter.unusedSimpArgs false
set_option linter.unusedVariables false
attribute [local go_sem ↓] Go.wp_at_zero Go.wp_at_succ

end Go.Proofs.YtlphnfajhpkleaaDoor

/-
 math/bits.LeadingZeros64.
-/
namespace Go.Proofs.YtlphnfajhpkleaaDoor
set_option maxRecDepth 100000
open Go.RowKit
set_option linter.unusedSimpArgs false
set_option linter.unusedVariables false
attribute [local go_sem ↓] Go.wp_at_zero Go.wp_at_succ

end Go.Proofs.YtlphnfajhpkleaaDoor

/-
 One digit of a division of two digits by two (to the base 2^32),as math/bits.Div64 reckons it: a first guess,lowered till it fits. Nothing here speaks of the program.
-/
namespace Go.Proofs.YtlphnfajhpkleaaDoor
set_option maxRecDepth 100000
set_option linter.unusedSimpArgs false
set_option linter.unusedVariables false

end Go.Proofs.YtlphnfajhpkleaaDoor

/-
 math/bits.Div64: two digits to the base 2^32,each by a guess that is lowered till it fits.
-/
namespace Go.Proofs.YtlphnfajhpkleaaDoor
set_option maxRecDepth 100000
open Go.RowKit
set_option linter.unusedSimpArgs false
set_option linter.unusedVariables false
attribute [local go_sem ↓] Go.wp_at_zero Go.wp_at_succ

end Go.Proofs.YtlphnfajhpkleaaDoor

/-
 math/bits.Div64: how often a number of two words goes into one of one word,and what is left.
-/
namespace Go.Proofs.YtlphnfajhpkleaaDoor
open Go.RowKit
set_option linter.unusedSimpArgs false
set_option linter.unusedVariables false
attribute [local go_sem ↓] Go.wp_at_zero Go.wp_at_succ

end Go.Proofs.YtlphnfajhpkleaaDoor

/-
 balefireref03.Wide,of one word: word by word.
-/
namespace Go.Proofs.YtlphnfajhpkleaaDoor
set_option maxRecDepth 100000
open Go.RowKit
set_option linter.unusedSimpArgs false
set_option linter.unusedVariables false
attribute [local go_sem ↓] Go.wp_at_zero Go.wp_at_succ

end Go.Proofs.YtlphnfajhpkleaaDoor

/-
 balefireref03.Common: by Euclid,over what the document's Div tells.
-/
namespace Go.Proofs.YtlphnfajhpkleaaDoor
set_option maxRecDepth 100000
open Go.RowKit
set_option linter.unusedSimpArgs false
set_option linter.unusedVariables false
attribute [local go_sem ↓] Go.wp_at_zero Go.wp_at_succ

end Go.Proofs.YtlphnfajhpkleaaDoor

/-
 The walk of DividesOf: it answers true,and nothing that was there is changed.
-/
namespace Go.Proofs.YtlphnfajhpkleaaDoor
set_option maxRecDepth 100000
open Go.RowKit
set_option linter.unusedSimpArgs false
set_option linter.unusedVariables false
attribute [local go_sem ↓] Go.wp_at_zero Go.wp_at_succ

end Go.Proofs.YtlphnfajhpkleaaDoor

/-
 balefireref02.Mul: digit by digit.
-/
namespace Go.Proofs.YtlphnfajhpkleaaDoor
set_option maxRecDepth 100000
open Go.RowKit
set_option linter.unusedSimpArgs false
set_option linter.unusedVariables false
attribute [local go_sem ↓] Go.wp_at_zero Go.wp_at_succ

section
variable {P:Program} {ops:Array Oper} {Q:Exit→Act→World→Prop} {a:Act} {W:World} {cores:List Core}
end

def rmulRes (X Y:Nat) (e:Ending):Prop:=∃ L H:Nat,e=.returned (.tuple #[num L,num H])∧L<65536^16∧H<65536^16∧X*Y=L+65536^16*H
end Go.Proofs.YtlphnfajhpkleaaDoor

/-
 balefireref04: whether numbers may,sums,differences,products.
-/
namespace Go.Proofs.YtlphnfajhpkleaaDoor
set_option maxRecDepth 100000
open Go.RowKit
set_option linter.unusedSimpArgs false
set_option linter.unusedVariables false
attribute [local go_sem ↓] Go.wp_at_zero Go.wp_at_succ

end Go.Proofs.YtlphnfajhpkleaaDoor

/-
 balefireref04: sums,differences,products as mods does them.
-/
namespace Go.Proofs.YtlphnfajhpkleaaDoor
set_option maxRecDepth 100000
open Go.RowKit
set_option linter.unusedSimpArgs false
set_option linter.unusedVariables false
attribute [local go_sem ↓] Go.wp_at_zero Go.wp_at_succ

end Go.Proofs.YtlphnfajhpkleaaDoor

/-
 balefireref04: powers.
-/
namespace Go.Proofs.YtlphnfajhpkleaaDoor
set_option maxRecDepth 100000
open Go.RowKit
set_option linter.unusedSimpArgs false
set_option linter.unusedVariables false
attribute [local go_sem ↓] Go.wp_at_zero Go.wp_at_succ

end Go.Proofs.YtlphnfajhpkleaaDoor

/-
 balefireref04.Exp.
-/
namespace Go.Proofs.YtlphnfajhpkleaaDoor
set_option maxRecDepth 100000
open Go.RowKit
set_option linter.unusedSimpArgs false
set_option linter.unusedVariables false
attribute [local go_sem ↓] Go.wp_at_zero Go.wp_at_succ

end Go.Proofs.YtlphnfajhpkleaaDoor

/-
 balefireref04.Inv.
-/
namespace Go.Proofs.YtlphnfajhpkleaaDoor
set_option maxRecDepth 100000
open Go.RowKit
set_option linter.unusedSimpArgs false
set_option linter.unusedVariables false
attribute [local go_sem ↓] Go.wp_at_zero Go.wp_at_succ

end Go.Proofs.YtlphnfajhpkleaaDoor

/-
 The walk of ModsOf: it answers true,and nothing that was there is changed.
-/
namespace Go.Proofs.YtlphnfajhpkleaaDoor
set_option maxRecDepth 100000
open Go.RowKit
set_option linter.unusedSimpArgs false
set_option linter.unusedVariables false
attribute [local go_sem ↓] Go.wp_at_zero Go.wp_at_succ

end Go.Proofs.YtlphnfajhpkleaaDoor
