/-
  NARROWER THAN 'FOR EVERY INPUT', by the rows' own cells (each row's printed sentence says how): PrimesCheck: loops · PrimesProduct: loops · PrimesLeft: loops · PrimesParts: loops · PrimesTurned: loops.
  DERIVED. THE GIVEN ROWS OF THIS SEAT. 7 by the template 'for every input the law returns true; each argument reads behind the call as it read before'; 0 by the template 'total and deterministic' (their statements: YtnphoelbbgmehaaTotals.lean).
  GIVEN WITH THE SEED: the statements are not yours to turn. If you find one false, say at which input.
  Laid BY PROGRAM, IN A SANDBOX (cutbox-rows.mjs): the forced cells as the released guide's own fill.sh prints them over the translation 3f884c648fcdb47a… (all of the seat's roots in one cut). By AI agents, Wed Nov 11 2026. No macro, syntax, notation, axiom, sorry.
-/
import Derived.Test.YtnphoelbbgmehaaChecked
import GoSem.Claim
import GoSem.ClaimJoined
import GoSem.ClaimMapViews
import Derived.JoinedTies
import Derived.KernelRfl
namespace Go.Proofs.Ytnphoelbbgmehaa
/- THE CELL 'sum', in the pinned program and in every row, IS THE sha256 OF THE DUMP (.gsa) THAT YtnphoelbbgmehaaProg.lean LOADS. Nothing in Lean hashes anything: it is a label: what it is worth is what the hold of that sum in a sandbox is worth. -/
noncomputable def Try.pinned : Pinned := { name := "ytnphoelbbgmehaa", sum := "3f884c648fcdb47a3296d74f54c4654aab6eedec0de13b3d3849213bd18150e9", checked := Try.checked }
namespace Rows
def none {H : Type} : Left H := { results := [], args := [] }

/-- 'balefirelaw07.PrimesSmall': WHATEVER THE INPUT: true; the input reads as it did. -/
def primesSmallSpec : ChangeSpec := { name := "primesSmall", fn := fun _ => fun
  | [d] => { results := [.lit (.bool true)], args := [d] }
  | _ => none }
def primesSmallRow : OpenClaim := { program := "ytnphoelbbgmehaa", sum := "3f884c648fcdb47a3296d74f54c4654aab6eedec0de13b3d3849213bd18150e9", func := "balefire/balefirelaw07.PrimesSmall", spec := "primesSmall", apart := false }
def PrimesSmallSaid : Prop := primesSmallRow.holds Try.pinned (OpenSpec.ofChange primesSmallSpec)

/-- ITS FALSE NEIGHBOUR: 'it returns false'. Refute it at one input. -/
def primesSmallWrong : ChangeSpec := { name := "primesSmall", fn := fun _ => fun
  | [d] => { results := [.lit (.bool false)], args := [d] }
  | _ => none }
def PrimesSmallWrongFalsely : Prop := primesSmallRow.holds Try.pinned (OpenSpec.ofChange primesSmallWrong)

/-- 'balefirelaw07.PrimesCheck': WHATEVER THE INPUT: true; the input reads as it did. -/
def primesCheckSpec : ChangeSpec := { name := "primesCheck", fn := fun _ => fun
  | [d] => { results := [.lit (.bool true)], args := [d] }
  | _ => none }
def primesCheckRow : OpenClaim := { program := "ytnphoelbbgmehaa", sum := "3f884c648fcdb47a3296d74f54c4654aab6eedec0de13b3d3849213bd18150e9", func := "balefire/balefirelaw07.PrimesCheck", spec := "primesCheck", inPlace := ["math/bits.Sub64", "math/bits.Add64"], unfollowed := true, recurses := true, named := ["math/bits.divideError", "math/bits.overflowError"], loops := true, apart := false }
def PrimesCheckSaid : Prop := primesCheckRow.holds Try.pinned (OpenSpec.ofChange primesCheckSpec)

/-- ITS FALSE NEIGHBOUR: 'it returns false'. Refute it at one input. -/
def primesCheckWrong : ChangeSpec := { name := "primesCheck", fn := fun _ => fun
  | [d] => { results := [.lit (.bool false)], args := [d] }
  | _ => none }
def PrimesCheckWrongFalsely : Prop := primesCheckRow.holds Try.pinned (OpenSpec.ofChange primesCheckWrong)

/-- 'balefirelaw07.PrimesProduct': WHATEVER THE INPUT: true; the input reads as it did. -/
def primesProductSpec : ChangeSpec := { name := "primesProduct", fn := fun _ => fun
  | [d1, d2, d3] => { results := [.lit (.bool true)], args := [d1, d2, d3] }
  | _ => none }
def primesProductRow : OpenClaim := { program := "ytnphoelbbgmehaa", sum := "3f884c648fcdb47a3296d74f54c4654aab6eedec0de13b3d3849213bd18150e9", func := "balefire/balefirelaw07.PrimesProduct", spec := "primesProduct", inPlace := ["math/bits.Sub64", "math/bits.Add64"], unfollowed := true, recurses := true, loops := true, apart := false }
def PrimesProductSaid : Prop := primesProductRow.holds Try.pinned (OpenSpec.ofChange primesProductSpec)

/-- ITS FALSE NEIGHBOUR: 'it returns false'. Refute it at one input. -/
def primesProductWrong : ChangeSpec := { name := "primesProduct", fn := fun _ => fun
  | [d1, d2, d3] => { results := [.lit (.bool false)], args := [d1, d2, d3] }
  | _ => none }
def PrimesProductWrongFalsely : Prop := primesProductRow.holds Try.pinned (OpenSpec.ofChange primesProductWrong)

/-- 'balefirelaw07.PrimesLeft': WHATEVER THE INPUT: true; the input reads as it did. -/
def primesLeftSpec : ChangeSpec := { name := "primesLeft", fn := fun _ => fun
  | [d1, d2] => { results := [.lit (.bool true)], args := [d1, d2] }
  | _ => none }
def primesLeftRow : OpenClaim := { program := "ytnphoelbbgmehaa", sum := "3f884c648fcdb47a3296d74f54c4654aab6eedec0de13b3d3849213bd18150e9", func := "balefire/balefirelaw07.PrimesLeft", spec := "primesLeft", inPlace := ["math/bits.Sub64", "math/bits.Add64"], unfollowed := true, recurses := true, loops := true, apart := false }
def PrimesLeftSaid : Prop := primesLeftRow.holds Try.pinned (OpenSpec.ofChange primesLeftSpec)

/-- ITS FALSE NEIGHBOUR: 'it returns false'. Refute it at one input. -/
def primesLeftWrong : ChangeSpec := { name := "primesLeft", fn := fun _ => fun
  | [d1, d2] => { results := [.lit (.bool false)], args := [d1, d2] }
  | _ => none }
def PrimesLeftWrongFalsely : Prop := primesLeftRow.holds Try.pinned (OpenSpec.ofChange primesLeftWrong)

/-- 'balefirelaw07.PrimesParts': WHATEVER THE INPUT: true; the input reads as it did. -/
def primesPartsSpec : ChangeSpec := { name := "primesParts", fn := fun _ => fun
  | [d] => { results := [.lit (.bool true)], args := [d] }
  | _ => none }
def primesPartsRow : OpenClaim := { program := "ytnphoelbbgmehaa", sum := "3f884c648fcdb47a3296d74f54c4654aab6eedec0de13b3d3849213bd18150e9", func := "balefire/balefirelaw07.PrimesParts", spec := "primesParts", inPlace := ["math/bits.Sub64", "math/bits.Add64"], unfollowed := true, recurses := true, loops := true, apart := false }
def PrimesPartsSaid : Prop := primesPartsRow.holds Try.pinned (OpenSpec.ofChange primesPartsSpec)

/-- ITS FALSE NEIGHBOUR: 'it returns false'. Refute it at one input. -/
def primesPartsWrong : ChangeSpec := { name := "primesParts", fn := fun _ => fun
  | [d] => { results := [.lit (.bool false)], args := [d] }
  | _ => none }
def PrimesPartsWrongFalsely : Prop := primesPartsRow.holds Try.pinned (OpenSpec.ofChange primesPartsWrong)

/-- 'balefirelaw07.PrimesTurned': WHATEVER THE INPUT: true; the input reads as it did. -/
def primesTurnedSpec : ChangeSpec := { name := "primesTurned", fn := fun _ => fun
  | [d1, d2] => { results := [.lit (.bool true)], args := [d1, d2] }
  | _ => none }
def primesTurnedRow : OpenClaim := { program := "ytnphoelbbgmehaa", sum := "3f884c648fcdb47a3296d74f54c4654aab6eedec0de13b3d3849213bd18150e9", func := "balefire/balefirelaw07.PrimesTurned", spec := "primesTurned", inPlace := ["math/bits.Sub64", "math/bits.Add64"], unfollowed := true, recurses := true, loops := true, apart := false }
def PrimesTurnedSaid : Prop := primesTurnedRow.holds Try.pinned (OpenSpec.ofChange primesTurnedSpec)

/-- ITS FALSE NEIGHBOUR: 'it returns false'. Refute it at one input. -/
def primesTurnedWrong : ChangeSpec := { name := "primesTurned", fn := fun _ => fun
  | [d1, d2] => { results := [.lit (.bool false)], args := [d1, d2] }
  | _ => none }
def PrimesTurnedWrongFalsely : Prop := primesTurnedRow.holds Try.pinned (OpenSpec.ofChange primesTurnedWrong)

/-- 'balefirelaw07.PrimesWilson': WHATEVER THE INPUT: true; the input reads as it did. -/
def primesWilsonSpec : ChangeSpec := { name := "primesWilson", fn := fun _ => fun
  | [d] => { results := [.lit (.bool true)], args := [d] }
  | _ => none }
def primesWilsonRow : OpenClaim := { program := "ytnphoelbbgmehaa", sum := "3f884c648fcdb47a3296d74f54c4654aab6eedec0de13b3d3849213bd18150e9", func := "balefire/balefirelaw07.PrimesWilson", spec := "primesWilson", inPlace := ["math/bits.Add64", "math/bits.Sub64"], unfollowed := true, recurses := true, apart := false }
def PrimesWilsonSaid : Prop := primesWilsonRow.holds Try.pinned (OpenSpec.ofChange primesWilsonSpec)

/-- ITS FALSE NEIGHBOUR: 'it returns false'. Refute it at one input. -/
def primesWilsonWrong : ChangeSpec := { name := "primesWilson", fn := fun _ => fun
  | [d] => { results := [.lit (.bool false)], args := [d] }
  | _ => none }
def PrimesWilsonWrongFalsely : Prop := primesWilsonRow.holds Try.pinned (OpenSpec.ofChange primesWilsonWrong)

/- THE SECOND FORM. 'bulk': how many values and letters a reading holds, each counted each time it is reached (what is shared counts as often as it is met; a slice's spare places count too). A statement '..UptoSaid' is the law's where the arguments, and the package variables that the reading takes, are together of bulk at most 1048576: NARROWER than '..Said'. Prove '..Said' where nothing that the law and all that it calls make is longer than what came in: it says more and counts as full. Else prove '..UptoSaid'. A law counts once. -/
mutual
def uptoBulk {H : Type} : DataW H → Nat
  | .lit (.string bytes) => bytes.length + 1
  | .lit _ => 1
  | .nil => 1
  | .ptr d => uptoBulk d + 1
  | .slice elems spare => uptoBulkAll elems + uptoBulkAll spare + 1
  | .agg parts => uptoBulkAll parts + 1
  | .iface _ d => uptoBulk d + 1
  | .map entries => uptoBulkEntries entries + 1
  | .held _ => 1
def uptoBulkAll {H : Type} : List (DataW H) → Nat
  | [] => 0
  | d :: r => uptoBulk d + uptoBulkAll r
def uptoBulkEntries {H : Type} : List (Lit × DataW H) → Nat
  | [] => 0
  | x :: r => uptoBulkEntry x + uptoBulkEntries r
def uptoBulkEntry {H : Type} : Lit × DataW H → Nat
  | (.string bytes, d) => bytes.length + uptoBulk d + 1
  | (_, d) => uptoBulk d + 1
 end
def uptoSmall : (H : Type) → List (DataW H) → Bool := fun _ ds => decide (uptoBulkAll ds ≤ 1048576)
def OpenSpec.upto (s : _root_.Go.ChangeSpec) : _root_.Go.OpenSpec := { _root_.Go.OpenSpec.ofChange s with cond := some uptoSmall }

/-- 'balefirelaw07.PrimesSmall', WHERE WHAT IT READS IS OF BULK AT MOST 1048576: true; the input reads as it did. -/
def primesSmallUptoRow : OpenClaim := { program := "ytnphoelbbgmehaa", sum := "3f884c648fcdb47a3296d74f54c4654aab6eedec0de13b3d3849213bd18150e9", func := "balefire/balefirelaw07.PrimesSmall", spec := "primesSmall", apart := false, narrowed := true }
def PrimesSmallUptoSaid : Prop := primesSmallUptoRow.holds Try.pinned (OpenSpec.upto primesSmallSpec)

/-- 'balefirelaw07.PrimesCheck', WHERE WHAT IT READS IS OF BULK AT MOST 1048576: true; the input reads as it did. -/
def primesCheckUptoRow : OpenClaim := { program := "ytnphoelbbgmehaa", sum := "3f884c648fcdb47a3296d74f54c4654aab6eedec0de13b3d3849213bd18150e9", func := "balefire/balefirelaw07.PrimesCheck", spec := "primesCheck", inPlace := ["math/bits.Sub64", "math/bits.Add64"], unfollowed := true, recurses := true, named := ["math/bits.divideError", "math/bits.overflowError"], loops := true, apart := false, narrowed := true }
def PrimesCheckUptoSaid : Prop := primesCheckUptoRow.holds Try.pinned (OpenSpec.upto primesCheckSpec)

/-- 'balefirelaw07.PrimesProduct', WHERE WHAT IT READS IS OF BULK AT MOST 1048576: true; the input reads as it did. -/
def primesProductUptoRow : OpenClaim := { program := "ytnphoelbbgmehaa", sum := "3f884c648fcdb47a3296d74f54c4654aab6eedec0de13b3d3849213bd18150e9", func := "balefire/balefirelaw07.PrimesProduct", spec := "primesProduct", inPlace := ["math/bits.Sub64", "math/bits.Add64"], unfollowed := true, recurses := true, loops := true, apart := false, narrowed := true }
def PrimesProductUptoSaid : Prop := primesProductUptoRow.holds Try.pinned (OpenSpec.upto primesProductSpec)

/-- 'balefirelaw07.PrimesLeft', WHERE WHAT IT READS IS OF BULK AT MOST 1048576: true; the input reads as it did. -/
def primesLeftUptoRow : OpenClaim := { program := "ytnphoelbbgmehaa", sum := "3f884c648fcdb47a3296d74f54c4654aab6eedec0de13b3d3849213bd18150e9", func := "balefire/balefirelaw07.PrimesLeft", spec := "primesLeft", inPlace := ["math/bits.Sub64", "math/bits.Add64"], unfollowed := true, recurses := true, loops := true, apart := false, narrowed := true }
def PrimesLeftUptoSaid : Prop := primesLeftUptoRow.holds Try.pinned (OpenSpec.upto primesLeftSpec)

/-- 'balefirelaw07.PrimesParts', WHERE WHAT IT READS IS OF BULK AT MOST 1048576: true; the input reads as it did. -/
def primesPartsUptoRow : OpenClaim := { program := "ytnphoelbbgmehaa", sum := "3f884c648fcdb47a3296d74f54c4654aab6eedec0de13b3d3849213bd18150e9", func := "balefire/balefirelaw07.PrimesParts", spec := "primesParts", inPlace := ["math/bits.Sub64", "math/bits.Add64"], unfollowed := true, recurses := true, loops := true, apart := false, narrowed := true }
def PrimesPartsUptoSaid : Prop := primesPartsUptoRow.holds Try.pinned (OpenSpec.upto primesPartsSpec)

/-- 'balefirelaw07.PrimesTurned', WHERE WHAT IT READS IS OF BULK AT MOST 1048576: true; the input reads as it did. -/
def primesTurnedUptoRow : OpenClaim := { program := "ytnphoelbbgmehaa", sum := "3f884c648fcdb47a3296d74f54c4654aab6eedec0de13b3d3849213bd18150e9", func := "balefire/balefirelaw07.PrimesTurned", spec := "primesTurned", inPlace := ["math/bits.Sub64", "math/bits.Add64"], unfollowed := true, recurses := true, loops := true, apart := false, narrowed := true }
def PrimesTurnedUptoSaid : Prop := primesTurnedUptoRow.holds Try.pinned (OpenSpec.upto primesTurnedSpec)

/-- 'balefirelaw07.PrimesWilson', WHERE WHAT IT READS IS OF BULK AT MOST 1048576: true; the input reads as it did. -/
def primesWilsonUptoRow : OpenClaim := { program := "ytnphoelbbgmehaa", sum := "3f884c648fcdb47a3296d74f54c4654aab6eedec0de13b3d3849213bd18150e9", func := "balefire/balefirelaw07.PrimesWilson", spec := "primesWilson", inPlace := ["math/bits.Add64", "math/bits.Sub64"], unfollowed := true, recurses := true, apart := false, narrowed := true }
def PrimesWilsonUptoSaid : Prop := primesWilsonUptoRow.holds Try.pinned (OpenSpec.upto primesWilsonSpec)

end Rows
end Go.Proofs.Ytnphoelbbgmehaa
