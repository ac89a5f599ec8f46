/-
  NARROWER THAN 'FOR EVERY INPUT', by the rows' own cells (each row's printed sentence says how): PrimesTurned: loops.
  DERIVED. THE GIVEN ROWS OF THIS SEAT. 6 by the template 'for every input the law returns true; each argument reads behind the call as it read before'; 0 by the template 'total and deterministic' (their statements: YtbggihkigblnfaaTotals.lean).
  GIVEN WITH THE SEED: the statements are not yours to turn. If you find one false, say at which input.
  Laid BY PROGRAM, IN A SANDBOX (cutbox-rows.mjs): the forced cells as the released guide's own fill.sh prints them over the translation c86d09920e0b86c9… (all of the seat's roots in one cut). By AI agents, Wed Nov 11 2026. No macro, syntax, notation, axiom, sorry.
-/
import Derived.Test.YtbggihkigblnfaaChecked
import GoSem.Claim
import GoSem.ClaimJoined
import GoSem.ClaimMapViews
import Derived.JoinedTies
import Derived.KernelRfl
namespace Go.Proofs.Ytbggihkigblnfaa
/- THE CELL 'sum', in the pinned program and in every row, IS THE sha256 OF THE DUMP (.gsa) THAT YtbggihkigblnfaaProg.lean LOADS. Nothing in Lean hashes anything: it is a label: what it is worth is what the hold of that sum in a sandbox is worth. -/
noncomputable def Try.pinned : Pinned := { name := "ytbggihkigblnfaa", sum := "c86d09920e0b86c90e9f27d01baf1a1e59e82b439bccc4e9766f17a88295dcb9", checked := Try.checked }
namespace Rows
def none {H : Type} : Left H := { results := [], args := [] }

/-- 'balefirelaw07.PrimesTurned': WHATEVER THE INPUT: true; the input reads as it did. -/
def primesTurnedSpec : ChangeSpec := { name := "primesTurned", fn := fun _ => fun
  | [d1, d2] => { results := [.lit (.bool true)], args := [d1, d2] }
  | _ => none }
def primesTurnedRow : OpenClaim := { program := "ytbggihkigblnfaa", sum := "c86d09920e0b86c90e9f27d01baf1a1e59e82b439bccc4e9766f17a88295dcb9", func := "balefire/balefirelaw07.PrimesTurned", spec := "primesTurned", inPlace := ["math/bits.Sub64", "math/bits.Add64"], unfollowed := true, recurses := true, loops := true, apart := false }
def PrimesTurnedSaid : Prop := primesTurnedRow.holds Try.pinned (OpenSpec.ofChange primesTurnedSpec)

/-- ITS FALSE NEIGHBOUR: 'it returns false'. Refute it at one input. -/
def primesTurnedWrong : ChangeSpec := { name := "primesTurned", fn := fun _ => fun
  | [d1, d2] => { results := [.lit (.bool false)], args := [d1, d2] }
  | _ => none }
def PrimesTurnedWrongFalsely : Prop := primesTurnedRow.holds Try.pinned (OpenSpec.ofChange primesTurnedWrong)

/-- 'balefirelaw08.GroupsOf': WHATEVER THE INPUT: true; the input reads as it did. -/
def groupsOfSpec : ChangeSpec := { name := "groupsOf", fn := fun _ => fun
  | [d1, d2, d3] => { results := [.lit (.bool true)], args := [d1, d2, d3] }
  | _ => none }
def groupsOfRow : OpenClaim := { program := "ytbggihkigblnfaa", sum := "c86d09920e0b86c90e9f27d01baf1a1e59e82b439bccc4e9766f17a88295dcb9", func := "balefire/balefirelaw08.GroupsOf", spec := "groupsOf", inPlace := ["math/bits.Sub64", "math/bits.Add64"], unfollowed := true, recurses := true, named := ["math/bits.divideError", "math/bits.overflowError"], apart := false }
def GroupsOfSaid : Prop := groupsOfRow.holds Try.pinned (OpenSpec.ofChange groupsOfSpec)

/-- ITS FALSE NEIGHBOUR: 'it returns false'. Refute it at one input. -/
def groupsOfWrong : ChangeSpec := { name := "groupsOf", fn := fun _ => fun
  | [d1, d2, d3] => { results := [.lit (.bool false)], args := [d1, d2, d3] }
  | _ => none }
def GroupsOfWrongFalsely : Prop := groupsOfRow.holds Try.pinned (OpenSpec.ofChange groupsOfWrong)

/-- 'balefirelaw08.GroupsClosed': WHATEVER THE INPUT: true; the input reads as it did. -/
def groupsClosedSpec : ChangeSpec := { name := "groupsClosed", fn := fun _ => fun
  | [d1, d2, d3] => { results := [.lit (.bool true)], args := [d1, d2, d3] }
  | _ => none }
def groupsClosedRow : OpenClaim := { program := "ytbggihkigblnfaa", sum := "c86d09920e0b86c90e9f27d01baf1a1e59e82b439bccc4e9766f17a88295dcb9", func := "balefire/balefirelaw08.GroupsClosed", spec := "groupsClosed", inPlace := ["math/bits.Sub64", "math/bits.Add64"], unfollowed := true, recurses := true, apart := false }
def GroupsClosedSaid : Prop := groupsClosedRow.holds Try.pinned (OpenSpec.ofChange groupsClosedSpec)

/-- ITS FALSE NEIGHBOUR: 'it returns false'. Refute it at one input. -/
def groupsClosedWrong : ChangeSpec := { name := "groupsClosed", fn := fun _ => fun
  | [d1, d2, d3] => { results := [.lit (.bool false)], args := [d1, d2, d3] }
  | _ => none }
def GroupsClosedWrongFalsely : Prop := groupsClosedRow.holds Try.pinned (OpenSpec.ofChange groupsClosedWrong)

/-- 'balefirelaw08.GroupsRound': WHATEVER THE INPUT: true; the input reads as it did. -/
def groupsRoundSpec : ChangeSpec := { name := "groupsRound", fn := fun _ => fun
  | [d1, d2, d3] => { results := [.lit (.bool true)], args := [d1, d2, d3] }
  | _ => none }
def groupsRoundRow : OpenClaim := { program := "ytbggihkigblnfaa", sum := "c86d09920e0b86c90e9f27d01baf1a1e59e82b439bccc4e9766f17a88295dcb9", func := "balefire/balefirelaw08.GroupsRound", spec := "groupsRound", inPlace := ["math/bits.Sub64", "math/bits.Add64"], unfollowed := true, recurses := true, apart := false }
def GroupsRoundSaid : Prop := groupsRoundRow.holds Try.pinned (OpenSpec.ofChange groupsRoundSpec)

/-- ITS FALSE NEIGHBOUR: 'it returns false'. Refute it at one input. -/
def groupsRoundWrong : ChangeSpec := { name := "groupsRound", fn := fun _ => fun
  | [d1, d2, d3] => { results := [.lit (.bool false)], args := [d1, d2, d3] }
  | _ => none }
def GroupsRoundWrongFalsely : Prop := groupsRoundRow.holds Try.pinned (OpenSpec.ofChange groupsRoundWrong)

/-- 'balefirelaw08.GroupsProduct': WHATEVER THE INPUT: true; the input reads as it did. -/
def groupsProductSpec : ChangeSpec := { name := "groupsProduct", fn := fun _ => fun
  | [d1, d2, d3] => { results := [.lit (.bool true)], args := [d1, d2, d3] }
  | _ => none }
def groupsProductRow : OpenClaim := { program := "ytbggihkigblnfaa", sum := "c86d09920e0b86c90e9f27d01baf1a1e59e82b439bccc4e9766f17a88295dcb9", func := "balefire/balefirelaw08.GroupsProduct", spec := "groupsProduct", inPlace := ["math/bits.Sub64", "math/bits.Add64"], unfollowed := true, recurses := true, apart := false }
def GroupsProductSaid : Prop := groupsProductRow.holds Try.pinned (OpenSpec.ofChange groupsProductSpec)

/-- ITS FALSE NEIGHBOUR: 'it returns false'. Refute it at one input. -/
def groupsProductWrong : ChangeSpec := { name := "groupsProduct", fn := fun _ => fun
  | [d1, d2, d3] => { results := [.lit (.bool false)], args := [d1, d2, d3] }
  | _ => none }
def GroupsProductWrongFalsely : Prop := groupsProductRow.holds Try.pinned (OpenSpec.ofChange groupsProductWrong)

/-- 'balefirelaw08.GroupsRoot': WHATEVER THE INPUT: true; the input reads as it did. -/
def groupsRootSpec : ChangeSpec := { name := "groupsRoot", fn := fun _ => fun
  | [d1, d2, d3] => { results := [.lit (.bool true)], args := [d1, d2, d3] }
  | _ => none }
def groupsRootRow : OpenClaim := { program := "ytbggihkigblnfaa", sum := "c86d09920e0b86c90e9f27d01baf1a1e59e82b439bccc4e9766f17a88295dcb9", func := "balefire/balefirelaw08.GroupsRoot", spec := "groupsRoot", inPlace := ["math/bits.Sub64", "math/bits.Add64"], unfollowed := true, recurses := true, apart := false }
def GroupsRootSaid : Prop := groupsRootRow.holds Try.pinned (OpenSpec.ofChange groupsRootSpec)

/-- ITS FALSE NEIGHBOUR: 'it returns false'. Refute it at one input. -/
def groupsRootWrong : ChangeSpec := { name := "groupsRoot", fn := fun _ => fun
  | [d1, d2, d3] => { results := [.lit (.bool false)], args := [d1, d2, d3] }
  | _ => none }
def GroupsRootWrongFalsely : Prop := groupsRootRow.holds Try.pinned (OpenSpec.ofChange groupsRootWrong)

/- THE SECOND FORM. 'bulk': how many values and letters a reading holds, each counted each time it is reached (what is shared counts as often as it is met; a slice's spare places count too). A statement '..UptoSaid' is the law's where the arguments, and the package variables that the reading takes, are together of bulk at most 1048576: NARROWER than '..Said'. Prove '..Said' where nothing that the law and all that it calls make is longer than what came in: it says more and counts as full. Else prove '..UptoSaid'. A law counts once. -/
mutual
def uptoBulk {H : Type} : DataW H → Nat
  | .lit (.string bytes) => bytes.length + 1
  | .lit _ => 1
  | .nil => 1
  | .ptr d => uptoBulk d + 1
  | .slice elems spare => uptoBulkAll elems + uptoBulkAll spare + 1
  | .agg parts => uptoBulkAll parts + 1
  | .iface _ d => uptoBulk d + 1
  | .map entries => uptoBulkEntries entries + 1
  | .held _ => 1
def uptoBulkAll {H : Type} : List (DataW H) → Nat
  | [] => 0
  | d :: r => uptoBulk d + uptoBulkAll r
def uptoBulkEntries {H : Type} : List (Lit × DataW H) → Nat
  | [] => 0
  | x :: r => uptoBulkEntry x + uptoBulkEntries r
def uptoBulkEntry {H : Type} : Lit × DataW H → Nat
  | (.string bytes, d) => bytes.length + uptoBulk d + 1
  | (_, d) => uptoBulk d + 1
 end
def uptoSmall : (H : Type) → List (DataW H) → Bool := fun _ ds => decide (uptoBulkAll ds ≤ 1048576)
def OpenSpec.upto (s : _root_.Go.ChangeSpec) : _root_.Go.OpenSpec := { _root_.Go.OpenSpec.ofChange s with cond := some uptoSmall }

/-- 'balefirelaw07.PrimesTurned', WHERE WHAT IT READS IS OF BULK AT MOST 1048576: true; the input reads as it did. -/
def primesTurnedUptoRow : OpenClaim := { program := "ytbggihkigblnfaa", sum := "c86d09920e0b86c90e9f27d01baf1a1e59e82b439bccc4e9766f17a88295dcb9", func := "balefire/balefirelaw07.PrimesTurned", spec := "primesTurned", inPlace := ["math/bits.Sub64", "math/bits.Add64"], unfollowed := true, recurses := true, loops := true, apart := false, narrowed := true }
def PrimesTurnedUptoSaid : Prop := primesTurnedUptoRow.holds Try.pinned (OpenSpec.upto primesTurnedSpec)

/-- 'balefirelaw08.GroupsOf', WHERE WHAT IT READS IS OF BULK AT MOST 1048576: true; the input reads as it did. -/
def groupsOfUptoRow : OpenClaim := { program := "ytbggihkigblnfaa", sum := "c86d09920e0b86c90e9f27d01baf1a1e59e82b439bccc4e9766f17a88295dcb9", func := "balefire/balefirelaw08.GroupsOf", spec := "groupsOf", inPlace := ["math/bits.Sub64", "math/bits.Add64"], unfollowed := true, recurses := true, named := ["math/bits.divideError", "math/bits.overflowError"], apart := false, narrowed := true }
def GroupsOfUptoSaid : Prop := groupsOfUptoRow.holds Try.pinned (OpenSpec.upto groupsOfSpec)

/-- 'balefirelaw08.GroupsClosed', WHERE WHAT IT READS IS OF BULK AT MOST 1048576: true; the input reads as it did. -/
def groupsClosedUptoRow : OpenClaim := { program := "ytbggihkigblnfaa", sum := "c86d09920e0b86c90e9f27d01baf1a1e59e82b439bccc4e9766f17a88295dcb9", func := "balefire/balefirelaw08.GroupsClosed", spec := "groupsClosed", inPlace := ["math/bits.Sub64", "math/bits.Add64"], unfollowed := true, recurses := true, apart := false, narrowed := true }
def GroupsClosedUptoSaid : Prop := groupsClosedUptoRow.holds Try.pinned (OpenSpec.upto groupsClosedSpec)

/-- 'balefirelaw08.GroupsRound', WHERE WHAT IT READS IS OF BULK AT MOST 1048576: true; the input reads as it did. -/
def groupsRoundUptoRow : OpenClaim := { program := "ytbggihkigblnfaa", sum := "c86d09920e0b86c90e9f27d01baf1a1e59e82b439bccc4e9766f17a88295dcb9", func := "balefire/balefirelaw08.GroupsRound", spec := "groupsRound", inPlace := ["math/bits.Sub64", "math/bits.Add64"], unfollowed := true, recurses := true, apart := false, narrowed := true }
def GroupsRoundUptoSaid : Prop := groupsRoundUptoRow.holds Try.pinned (OpenSpec.upto groupsRoundSpec)

/-- 'balefirelaw08.GroupsProduct', WHERE WHAT IT READS IS OF BULK AT MOST 1048576: true; the input reads as it did. -/
def groupsProductUptoRow : OpenClaim := { program := "ytbggihkigblnfaa", sum := "c86d09920e0b86c90e9f27d01baf1a1e59e82b439bccc4e9766f17a88295dcb9", func := "balefire/balefirelaw08.GroupsProduct", spec := "groupsProduct", inPlace := ["math/bits.Sub64", "math/bits.Add64"], unfollowed := true, recurses := true, apart := false, narrowed := true }
def GroupsProductUptoSaid : Prop := groupsProductUptoRow.holds Try.pinned (OpenSpec.upto groupsProductSpec)

/-- 'balefirelaw08.GroupsRoot', WHERE WHAT IT READS IS OF BULK AT MOST 1048576: true; the input reads as it did. -/
def groupsRootUptoRow : OpenClaim := { program := "ytbggihkigblnfaa", sum := "c86d09920e0b86c90e9f27d01baf1a1e59e82b439bccc4e9766f17a88295dcb9", func := "balefire/balefirelaw08.GroupsRoot", spec := "groupsRoot", inPlace := ["math/bits.Sub64", "math/bits.Add64"], unfollowed := true, recurses := true, apart := false, narrowed := true }
def GroupsRootUptoSaid : Prop := groupsRootUptoRow.holds Try.pinned (OpenSpec.upto groupsRootSpec)

end Rows
end Go.Proofs.Ytbggihkigblnfaa
