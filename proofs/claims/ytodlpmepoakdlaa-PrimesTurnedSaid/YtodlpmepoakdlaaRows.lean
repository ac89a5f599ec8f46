/-
  NARROWER THAN 'FOR EVERY INPUT', by the rows' own cells (each row's printed sentence says how): PrimesTurned: loops.
  DERIVED. THE GIVEN ROWS OF THIS SEAT. 6 by the template 'for every input the law returns true; each argument reads behind the call as it read before'; 0 by the template 'total and deterministic' (their statements: YtodlpmepoakdlaaTotals.lean).
  GIVEN WITH THE SEED: the statements are not yours to turn. If you find one false, say at which input.
  Laid BY PROGRAM, IN A SANDBOX (cutbox-rows.mjs): the forced cells as the released guide's own fill.sh prints them over the translation 885635dcdcb1e7fc… (all of the seat's roots in one cut). By AI agents, Wed Nov 11 2026. No macro, syntax, notation, axiom, sorry.
-/
import Derived.Test.YtodlpmepoakdlaaChecked
import GoSem.Claim
import GoSem.ClaimJoined
import GoSem.ClaimMapViews
import Derived.JoinedTies
import Derived.KernelRfl
namespace Go.Proofs.Ytodlpmepoakdlaa
/- THE CELL 'sum', in the pinned program and in every row, IS THE sha256 OF THE DUMP (.gsa) THAT YtodlpmepoakdlaaProg.lean LOADS. Nothing in Lean hashes anything: it is a label: what it is worth is what the hold of that sum in a sandbox is worth. -/
noncomputable def Try.pinned : Pinned := { name := "ytodlpmepoakdlaa", sum := "885635dcdcb1e7fcb140f27a9a6eac4c11aa82517f3188619997791de11d7f69", checked := Try.checked }
namespace Rows
def none {H : Type} : Left H := { results := [], args := [] }

/-- 'balefirelaw07.PrimesTurned': WHATEVER THE INPUT: true; the input reads as it did. -/
def primesTurnedSpec : ChangeSpec := { name := "primesTurned", fn := fun _ => fun
  | [d1, d2] => { results := [.lit (.bool true)], args := [d1, d2] }
  | _ => none }
def primesTurnedRow : OpenClaim := { program := "ytodlpmepoakdlaa", sum := "885635dcdcb1e7fcb140f27a9a6eac4c11aa82517f3188619997791de11d7f69", func := "balefire/balefirelaw07.PrimesTurned", spec := "primesTurned", inPlace := ["math/bits.Sub64", "math/bits.Add64"], unfollowed := true, recurses := true, loops := true, apart := false }
def PrimesTurnedSaid : Prop := primesTurnedRow.holds Try.pinned (OpenSpec.ofChange primesTurnedSpec)

/-- ITS FALSE NEIGHBOUR: 'it returns false'. Refute it at one input. -/
def primesTurnedWrong : ChangeSpec := { name := "primesTurned", fn := fun _ => fun
  | [d1, d2] => { results := [.lit (.bool false)], args := [d1, d2] }
  | _ => none }
def PrimesTurnedWrongFalsely : Prop := primesTurnedRow.holds Try.pinned (OpenSpec.ofChange primesTurnedWrong)

/-- 'balefirelaw09.ScalarsOf': WHATEVER THE INPUT: true; the input reads as it did. -/
def scalarsOfSpec : ChangeSpec := { name := "scalarsOf", fn := fun _ => fun
  | [d1, d2, d3] => { results := [.lit (.bool true)], args := [d1, d2, d3] }
  | _ => none }
def scalarsOfRow : OpenClaim := { program := "ytodlpmepoakdlaa", sum := "885635dcdcb1e7fcb140f27a9a6eac4c11aa82517f3188619997791de11d7f69", func := "balefire/balefirelaw09.ScalarsOf", spec := "scalarsOf", inPlace := ["math/bits.Add64", "math/bits.Sub64"], unfollowed := true, recurses := true, named := ["math/bits.divideError", "math/bits.overflowError"], apart := false }
def ScalarsOfSaid : Prop := scalarsOfRow.holds Try.pinned (OpenSpec.ofChange scalarsOfSpec)

/-- ITS FALSE NEIGHBOUR: 'it returns false'. Refute it at one input. -/
def scalarsOfWrong : ChangeSpec := { name := "scalarsOf", fn := fun _ => fun
  | [d1, d2, d3] => { results := [.lit (.bool false)], args := [d1, d2, d3] }
  | _ => none }
def ScalarsOfWrongFalsely : Prop := scalarsOfRow.holds Try.pinned (OpenSpec.ofChange scalarsOfWrong)

/-- 'balefirelaw09.ScalarsWhole': WHATEVER THE INPUT: true; the input reads as it did. -/
def scalarsWholeSpec : ChangeSpec := { name := "scalarsWhole", fn := fun _ => fun
  | [d1, d2, d3] => { results := [.lit (.bool true)], args := [d1, d2, d3] }
  | _ => none }
def scalarsWholeRow : OpenClaim := { program := "ytodlpmepoakdlaa", sum := "885635dcdcb1e7fcb140f27a9a6eac4c11aa82517f3188619997791de11d7f69", func := "balefire/balefirelaw09.ScalarsWhole", spec := "scalarsWhole", inPlace := ["math/bits.Sub64", "math/bits.Add64"], unfollowed := true, recurses := true, apart := false }
def ScalarsWholeSaid : Prop := scalarsWholeRow.holds Try.pinned (OpenSpec.ofChange scalarsWholeSpec)

/-- ITS FALSE NEIGHBOUR: 'it returns false'. Refute it at one input. -/
def scalarsWholeWrong : ChangeSpec := { name := "scalarsWhole", fn := fun _ => fun
  | [d1, d2, d3] => { results := [.lit (.bool false)], args := [d1, d2, d3] }
  | _ => none }
def ScalarsWholeWrongFalsely : Prop := scalarsWholeRow.holds Try.pinned (OpenSpec.ofChange scalarsWholeWrong)

/-- 'balefirelaw09.ScalarsNext': WHATEVER THE INPUT: true; the input reads as it did. -/
def scalarsNextSpec : ChangeSpec := { name := "scalarsNext", fn := fun _ => fun
  | [d1, d2] => { results := [.lit (.bool true)], args := [d1, d2] }
  | _ => none }
def scalarsNextRow : OpenClaim := { program := "ytodlpmepoakdlaa", sum := "885635dcdcb1e7fcb140f27a9a6eac4c11aa82517f3188619997791de11d7f69", func := "balefire/balefirelaw09.ScalarsNext", spec := "scalarsNext", inPlace := ["math/bits.Sub64", "math/bits.Add64"], unfollowed := true, recurses := true, apart := false }
def ScalarsNextSaid : Prop := scalarsNextRow.holds Try.pinned (OpenSpec.ofChange scalarsNextSpec)

/-- ITS FALSE NEIGHBOUR: 'it returns false'. Refute it at one input. -/
def scalarsNextWrong : ChangeSpec := { name := "scalarsNext", fn := fun _ => fun
  | [d1, d2] => { results := [.lit (.bool false)], args := [d1, d2] }
  | _ => none }
def ScalarsNextWrongFalsely : Prop := scalarsNextRow.holds Try.pinned (OpenSpec.ofChange scalarsNextWrong)

/-- 'balefirelaw09.ScalarsUndo': WHATEVER THE INPUT: true; the input reads as it did. -/
def scalarsUndoSpec : ChangeSpec := { name := "scalarsUndo", fn := fun _ => fun
  | [d1, d2, d3] => { results := [.lit (.bool true)], args := [d1, d2, d3] }
  | _ => none }
def scalarsUndoRow : OpenClaim := { program := "ytodlpmepoakdlaa", sum := "885635dcdcb1e7fcb140f27a9a6eac4c11aa82517f3188619997791de11d7f69", func := "balefire/balefirelaw09.ScalarsUndo", spec := "scalarsUndo", inPlace := ["math/bits.Sub64", "math/bits.Add64"], unfollowed := true, recurses := true, apart := false }
def ScalarsUndoSaid : Prop := scalarsUndoRow.holds Try.pinned (OpenSpec.ofChange scalarsUndoSpec)

/-- ITS FALSE NEIGHBOUR: 'it returns false'. Refute it at one input. -/
def scalarsUndoWrong : ChangeSpec := { name := "scalarsUndo", fn := fun _ => fun
  | [d1, d2, d3] => { results := [.lit (.bool false)], args := [d1, d2, d3] }
  | _ => none }
def ScalarsUndoWrongFalsely : Prop := scalarsUndoRow.holds Try.pinned (OpenSpec.ofChange scalarsUndoWrong)

/-- 'balefirelaw09.ScalarsParts': WHATEVER THE INPUT: true; the input reads as it did. -/
def scalarsPartsSpec : ChangeSpec := { name := "scalarsParts", fn := fun _ => fun
  | [d1, d2] => { results := [.lit (.bool true)], args := [d1, d2] }
  | _ => none }
def scalarsPartsRow : OpenClaim := { program := "ytodlpmepoakdlaa", sum := "885635dcdcb1e7fcb140f27a9a6eac4c11aa82517f3188619997791de11d7f69", func := "balefire/balefirelaw09.ScalarsParts", spec := "scalarsParts", inPlace := ["math/bits.Add64", "math/bits.Sub64"], unfollowed := true, recurses := true, apart := false }
def ScalarsPartsSaid : Prop := scalarsPartsRow.holds Try.pinned (OpenSpec.ofChange scalarsPartsSpec)

/-- ITS FALSE NEIGHBOUR: 'it returns false'. Refute it at one input. -/
def scalarsPartsWrong : ChangeSpec := { name := "scalarsParts", fn := fun _ => fun
  | [d1, d2] => { results := [.lit (.bool false)], args := [d1, d2] }
  | _ => none }
def ScalarsPartsWrongFalsely : Prop := scalarsPartsRow.holds Try.pinned (OpenSpec.ofChange scalarsPartsWrong)

/- THE SECOND FORM. 'bulk': how many values and letters a reading holds, each counted each time it is reached (what is shared counts as often as it is met; a slice's spare places count too). A statement '..UptoSaid' is the law's where the arguments, and the package variables that the reading takes, are together of bulk at most 1048576: NARROWER than '..Said'. Prove '..Said' where nothing that the law and all that it calls make is longer than what came in: it says more and counts as full. Else prove '..UptoSaid'. A law counts once. -/
mutual
def uptoBulk {H : Type} : DataW H → Nat
  | .lit (.string bytes) => bytes.length + 1
  | .lit _ => 1
  | .nil => 1
  | .ptr d => uptoBulk d + 1
  | .slice elems spare => uptoBulkAll elems + uptoBulkAll spare + 1
  | .agg parts => uptoBulkAll parts + 1
  | .iface _ d => uptoBulk d + 1
  | .map entries => uptoBulkEntries entries + 1
  | .held _ => 1
def uptoBulkAll {H : Type} : List (DataW H) → Nat
  | [] => 0
  | d :: r => uptoBulk d + uptoBulkAll r
def uptoBulkEntries {H : Type} : List (Lit × DataW H) → Nat
  | [] => 0
  | x :: r => uptoBulkEntry x + uptoBulkEntries r
def uptoBulkEntry {H : Type} : Lit × DataW H → Nat
  | (.string bytes, d) => bytes.length + uptoBulk d + 1
  | (_, d) => uptoBulk d + 1
 end
def uptoSmall : (H : Type) → List (DataW H) → Bool := fun _ ds => decide (uptoBulkAll ds ≤ 1048576)
def OpenSpec.upto (s : _root_.Go.ChangeSpec) : _root_.Go.OpenSpec := { _root_.Go.OpenSpec.ofChange s with cond := some uptoSmall }

/-- 'balefirelaw07.PrimesTurned', WHERE WHAT IT READS IS OF BULK AT MOST 1048576: true; the input reads as it did. -/
def primesTurnedUptoRow : OpenClaim := { program := "ytodlpmepoakdlaa", sum := "885635dcdcb1e7fcb140f27a9a6eac4c11aa82517f3188619997791de11d7f69", func := "balefire/balefirelaw07.PrimesTurned", spec := "primesTurned", inPlace := ["math/bits.Sub64", "math/bits.Add64"], unfollowed := true, recurses := true, loops := true, apart := false, narrowed := true }
def PrimesTurnedUptoSaid : Prop := primesTurnedUptoRow.holds Try.pinned (OpenSpec.upto primesTurnedSpec)

/-- 'balefirelaw09.ScalarsOf', WHERE WHAT IT READS IS OF BULK AT MOST 1048576: true; the input reads as it did. -/
def scalarsOfUptoRow : OpenClaim := { program := "ytodlpmepoakdlaa", sum := "885635dcdcb1e7fcb140f27a9a6eac4c11aa82517f3188619997791de11d7f69", func := "balefire/balefirelaw09.ScalarsOf", spec := "scalarsOf", inPlace := ["math/bits.Add64", "math/bits.Sub64"], unfollowed := true, recurses := true, named := ["math/bits.divideError", "math/bits.overflowError"], apart := false, narrowed := true }
def ScalarsOfUptoSaid : Prop := scalarsOfUptoRow.holds Try.pinned (OpenSpec.upto scalarsOfSpec)

/-- 'balefirelaw09.ScalarsWhole', WHERE WHAT IT READS IS OF BULK AT MOST 1048576: true; the input reads as it did. -/
def scalarsWholeUptoRow : OpenClaim := { program := "ytodlpmepoakdlaa", sum := "885635dcdcb1e7fcb140f27a9a6eac4c11aa82517f3188619997791de11d7f69", func := "balefire/balefirelaw09.ScalarsWhole", spec := "scalarsWhole", inPlace := ["math/bits.Sub64", "math/bits.Add64"], unfollowed := true, recurses := true, apart := false, narrowed := true }
def ScalarsWholeUptoSaid : Prop := scalarsWholeUptoRow.holds Try.pinned (OpenSpec.upto scalarsWholeSpec)

/-- 'balefirelaw09.ScalarsNext', WHERE WHAT IT READS IS OF BULK AT MOST 1048576: true; the input reads as it did. -/
def scalarsNextUptoRow : OpenClaim := { program := "ytodlpmepoakdlaa", sum := "885635dcdcb1e7fcb140f27a9a6eac4c11aa82517f3188619997791de11d7f69", func := "balefire/balefirelaw09.ScalarsNext", spec := "scalarsNext", inPlace := ["math/bits.Sub64", "math/bits.Add64"], unfollowed := true, recurses := true, apart := false, narrowed := true }
def ScalarsNextUptoSaid : Prop := scalarsNextUptoRow.holds Try.pinned (OpenSpec.upto scalarsNextSpec)

/-- 'balefirelaw09.ScalarsUndo', WHERE WHAT IT READS IS OF BULK AT MOST 1048576: true; the input reads as it did. -/
def scalarsUndoUptoRow : OpenClaim := { program := "ytodlpmepoakdlaa", sum := "885635dcdcb1e7fcb140f27a9a6eac4c11aa82517f3188619997791de11d7f69", func := "balefire/balefirelaw09.ScalarsUndo", spec := "scalarsUndo", inPlace := ["math/bits.Sub64", "math/bits.Add64"], unfollowed := true, recurses := true, apart := false, narrowed := true }
def ScalarsUndoUptoSaid : Prop := scalarsUndoUptoRow.holds Try.pinned (OpenSpec.upto scalarsUndoSpec)

/-- 'balefirelaw09.ScalarsParts', WHERE WHAT IT READS IS OF BULK AT MOST 1048576: true; the input reads as it did. -/
def scalarsPartsUptoRow : OpenClaim := { program := "ytodlpmepoakdlaa", sum := "885635dcdcb1e7fcb140f27a9a6eac4c11aa82517f3188619997791de11d7f69", func := "balefire/balefirelaw09.ScalarsParts", spec := "scalarsParts", inPlace := ["math/bits.Add64", "math/bits.Sub64"], unfollowed := true, recurses := true, apart := false, narrowed := true }
def ScalarsPartsUptoSaid : Prop := scalarsPartsUptoRow.holds Try.pinned (OpenSpec.upto scalarsPartsSpec)

end Rows
end Go.Proofs.Ytodlpmepoakdlaa
