/-
  No cell of these rows narrows 'for every input' (looked for: loops, veiled, ifaces, maps, wideKeys, modest, calm, conditions, laid).
  DERIVED. THE GIVEN ROWS OF THIS SEAT. 10 by the template 'for every input the law returns true; each argument reads behind the call as it read before'; 0 by the template 'total and deterministic' (their statements: YtgfgicpffajgdaaTotals.lean).
  GIVEN WITH THE SEED: the statements are not yours to turn. If you find one false, say at which input.
  Laid BY PROGRAM, IN A SANDBOX (cutbox-rows.mjs): the forced cells as the released guide's own fill.sh prints them over the translation 506fe3184c3b6873… (all of the seat's roots in one cut). By AI agents, Wed Nov 11 2026. No macro, syntax, notation, axiom, sorry.
-/
import Derived.Test.YtgfgicpffajgdaaChecked
import GoSem.Claim
import GoSem.ClaimJoined
import GoSem.ClaimMapViews
import Derived.JoinedTies
import Derived.KernelRfl
namespace Go.Proofs.Ytgfgicpffajgdaa
/- THE CELL 'sum', in the pinned program and in every row, IS THE sha256 OF THE DUMP (.gsa) THAT YtgfgicpffajgdaaProg.lean LOADS. Nothing in Lean hashes anything: it is a label: what it is worth is what the hold of that sum in a sandbox is worth. -/
noncomputable def Try.pinned : Pinned := { name := "ytgfgicpffajgdaa", sum := "506fe3184c3b687397c405b5bc513c34b4bf23c3961629344e322b74b3e3c295", checked := Try.checked }
namespace Rows
def none {H : Type} : Left H := { results := [], args := [] }

/-- 'balefirelaw02.LimbsOf': WHATEVER THE INPUT: true; the input reads as it did. -/
def limbsOfSpec : ChangeSpec := { name := "limbsOf", fn := fun _ => fun
  | [d1, d2, d3] => { results := [.lit (.bool true)], args := [d1, d2, d3] }
  | _ => none }
def limbsOfRow : OpenClaim := { program := "ytgfgicpffajgdaa", sum := "506fe3184c3b687397c405b5bc513c34b4bf23c3961629344e322b74b3e3c295", func := "balefire/balefirelaw02.LimbsOf", spec := "limbsOf", inPlace := ["math/bits.Add64", "math/bits.Sub64"], apart := false }
def LimbsOfSaid : Prop := limbsOfRow.holds Try.pinned (OpenSpec.ofChange limbsOfSpec)

/-- ITS FALSE NEIGHBOUR: 'it returns false'. Refute it at one input. -/
def limbsOfWrong : ChangeSpec := { name := "limbsOf", fn := fun _ => fun
  | [d1, d2, d3] => { results := [.lit (.bool false)], args := [d1, d2, d3] }
  | _ => none }
def LimbsOfWrongFalsely : Prop := limbsOfRow.holds Try.pinned (OpenSpec.ofChange limbsOfWrong)

/-- 'balefirelaw02.LimbsProducts': WHATEVER THE INPUT: true; the input reads as it did. -/
def limbsProductsSpec : ChangeSpec := { name := "limbsProducts", fn := fun _ => fun
  | [d] => { results := [.lit (.bool true)], args := [d] }
  | _ => none }
def limbsProductsRow : OpenClaim := { program := "ytgfgicpffajgdaa", sum := "506fe3184c3b687397c405b5bc513c34b4bf23c3961629344e322b74b3e3c295", func := "balefire/balefirelaw02.LimbsProducts", spec := "limbsProducts", inPlace := ["math/bits.Add64", "math/bits.Sub64"], apart := false }
def LimbsProductsSaid : Prop := limbsProductsRow.holds Try.pinned (OpenSpec.ofChange limbsProductsSpec)

/-- ITS FALSE NEIGHBOUR: 'it returns false'. Refute it at one input. -/
def limbsProductsWrong : ChangeSpec := { name := "limbsProducts", fn := fun _ => fun
  | [d] => { results := [.lit (.bool false)], args := [d] }
  | _ => none }
def LimbsProductsWrongFalsely : Prop := limbsProductsRow.holds Try.pinned (OpenSpec.ofChange limbsProductsWrong)

/-- 'balefirelaw03.DividesOf': WHATEVER THE INPUT: true; the input reads as it did. -/
def dividesOfSpec : ChangeSpec := { name := "dividesOf", fn := fun _ => fun
  | [d] => { results := [.lit (.bool true)], args := [d] }
  | _ => none }
def dividesOfRow : OpenClaim := { program := "ytgfgicpffajgdaa", sum := "506fe3184c3b687397c405b5bc513c34b4bf23c3961629344e322b74b3e3c295", func := "balefire/balefirelaw03.DividesOf", spec := "dividesOf", inPlace := ["math/bits.Add64", "math/bits.Sub64"], named := ["math/bits.divideError", "math/bits.overflowError"], apart := false }
def DividesOfSaid : Prop := dividesOfRow.holds Try.pinned (OpenSpec.ofChange dividesOfSpec)

/-- ITS FALSE NEIGHBOUR: 'it returns false'. Refute it at one input. -/
def dividesOfWrong : ChangeSpec := { name := "dividesOf", fn := fun _ => fun
  | [d] => { results := [.lit (.bool false)], args := [d] }
  | _ => none }
def DividesOfWrongFalsely : Prop := dividesOfRow.holds Try.pinned (OpenSpec.ofChange dividesOfWrong)

/-- 'balefirelaw03.DividesBack': WHATEVER THE INPUT: true; the input reads as it did. -/
def dividesBackSpec : ChangeSpec := { name := "dividesBack", fn := fun _ => fun
  | [d1, d2] => { results := [.lit (.bool true)], args := [d1, d2] }
  | _ => none }
def dividesBackRow : OpenClaim := { program := "ytgfgicpffajgdaa", sum := "506fe3184c3b687397c405b5bc513c34b4bf23c3961629344e322b74b3e3c295", func := "balefire/balefirelaw03.DividesBack", spec := "dividesBack", inPlace := ["math/bits.Add64", "math/bits.Sub64"], apart := false }
def DividesBackSaid : Prop := dividesBackRow.holds Try.pinned (OpenSpec.ofChange dividesBackSpec)

/-- ITS FALSE NEIGHBOUR: 'it returns false'. Refute it at one input. -/
def dividesBackWrong : ChangeSpec := { name := "dividesBack", fn := fun _ => fun
  | [d1, d2] => { results := [.lit (.bool false)], args := [d1, d2] }
  | _ => none }
def DividesBackWrongFalsely : Prop := dividesBackRow.holds Try.pinned (OpenSpec.ofChange dividesBackWrong)

/-- 'balefirelaw03.DividesWide': WHATEVER THE INPUT: true; the input reads as it did. -/
def dividesWideSpec : ChangeSpec := { name := "dividesWide", fn := fun _ => fun
  | [d] => { results := [.lit (.bool true)], args := [d] }
  | _ => none }
def dividesWideRow : OpenClaim := { program := "ytgfgicpffajgdaa", sum := "506fe3184c3b687397c405b5bc513c34b4bf23c3961629344e322b74b3e3c295", func := "balefire/balefirelaw03.DividesWide", spec := "dividesWide", inPlace := ["math/bits.Add64", "math/bits.Sub64"], apart := false }
def DividesWideSaid : Prop := dividesWideRow.holds Try.pinned (OpenSpec.ofChange dividesWideSpec)

/-- ITS FALSE NEIGHBOUR: 'it returns false'. Refute it at one input. -/
def dividesWideWrong : ChangeSpec := { name := "dividesWide", fn := fun _ => fun
  | [d] => { results := [.lit (.bool false)], args := [d] }
  | _ => none }
def DividesWideWrongFalsely : Prop := dividesWideRow.holds Try.pinned (OpenSpec.ofChange dividesWideWrong)

/-- 'balefirelaw03.DividesAgain': WHATEVER THE INPUT: true; the input reads as it did. -/
def dividesAgainSpec : ChangeSpec := { name := "dividesAgain", fn := fun _ => fun
  | [d1, d2, d3] => { results := [.lit (.bool true)], args := [d1, d2, d3] }
  | _ => none }
def dividesAgainRow : OpenClaim := { program := "ytgfgicpffajgdaa", sum := "506fe3184c3b687397c405b5bc513c34b4bf23c3961629344e322b74b3e3c295", func := "balefire/balefirelaw03.DividesAgain", spec := "dividesAgain", inPlace := ["math/bits.Add64", "math/bits.Sub64"], apart := false }
def DividesAgainSaid : Prop := dividesAgainRow.holds Try.pinned (OpenSpec.ofChange dividesAgainSpec)

/-- ITS FALSE NEIGHBOUR: 'it returns false'. Refute it at one input. -/
def dividesAgainWrong : ChangeSpec := { name := "dividesAgain", fn := fun _ => fun
  | [d1, d2, d3] => { results := [.lit (.bool false)], args := [d1, d2, d3] }
  | _ => none }
def DividesAgainWrongFalsely : Prop := dividesAgainRow.holds Try.pinned (OpenSpec.ofChange dividesAgainWrong)

/-- 'balefirelaw03.DividesCommon': WHATEVER THE INPUT: true; the input reads as it did. -/
def dividesCommonSpec : ChangeSpec := { name := "dividesCommon", fn := fun _ => fun
  | [d1, d2] => { results := [.lit (.bool true)], args := [d1, d2] }
  | _ => none }
def dividesCommonRow : OpenClaim := { program := "ytgfgicpffajgdaa", sum := "506fe3184c3b687397c405b5bc513c34b4bf23c3961629344e322b74b3e3c295", func := "balefire/balefirelaw03.DividesCommon", spec := "dividesCommon", inPlace := ["math/bits.Add64", "math/bits.Sub64"], apart := false }
def DividesCommonSaid : Prop := dividesCommonRow.holds Try.pinned (OpenSpec.ofChange dividesCommonSpec)

/-- ITS FALSE NEIGHBOUR: 'it returns false'. Refute it at one input. -/
def dividesCommonWrong : ChangeSpec := { name := "dividesCommon", fn := fun _ => fun
  | [d1, d2] => { results := [.lit (.bool false)], args := [d1, d2] }
  | _ => none }
def DividesCommonWrongFalsely : Prop := dividesCommonRow.holds Try.pinned (OpenSpec.ofChange dividesCommonWrong)

/-- 'balefirelaw03.DividesTimes': WHATEVER THE INPUT: true; the input reads as it did. -/
def dividesTimesSpec : ChangeSpec := { name := "dividesTimes", fn := fun _ => fun
  | [d1, d2, d3] => { results := [.lit (.bool true)], args := [d1, d2, d3] }
  | _ => none }
def dividesTimesRow : OpenClaim := { program := "ytgfgicpffajgdaa", sum := "506fe3184c3b687397c405b5bc513c34b4bf23c3961629344e322b74b3e3c295", func := "balefire/balefirelaw03.DividesTimes", spec := "dividesTimes", inPlace := ["math/bits.Add64", "math/bits.Sub64"], apart := false }
def DividesTimesSaid : Prop := dividesTimesRow.holds Try.pinned (OpenSpec.ofChange dividesTimesSpec)

/-- ITS FALSE NEIGHBOUR: 'it returns false'. Refute it at one input. -/
def dividesTimesWrong : ChangeSpec := { name := "dividesTimes", fn := fun _ => fun
  | [d1, d2, d3] => { results := [.lit (.bool false)], args := [d1, d2, d3] }
  | _ => none }
def DividesTimesWrongFalsely : Prop := dividesTimesRow.holds Try.pinned (OpenSpec.ofChange dividesTimesWrong)

/-- 'balefirelaw03.DividesTwice': WHATEVER THE INPUT: true; the input reads as it did. -/
def dividesTwiceSpec : ChangeSpec := { name := "dividesTwice", fn := fun _ => fun
  | [d1, d2, d3] => { results := [.lit (.bool true)], args := [d1, d2, d3] }
  | _ => none }
def dividesTwiceRow : OpenClaim := { program := "ytgfgicpffajgdaa", sum := "506fe3184c3b687397c405b5bc513c34b4bf23c3961629344e322b74b3e3c295", func := "balefire/balefirelaw03.DividesTwice", spec := "dividesTwice", inPlace := ["math/bits.Add64", "math/bits.Sub64"], apart := false }
def DividesTwiceSaid : Prop := dividesTwiceRow.holds Try.pinned (OpenSpec.ofChange dividesTwiceSpec)

/-- ITS FALSE NEIGHBOUR: 'it returns false'. Refute it at one input. -/
def dividesTwiceWrong : ChangeSpec := { name := "dividesTwice", fn := fun _ => fun
  | [d1, d2, d3] => { results := [.lit (.bool false)], args := [d1, d2, d3] }
  | _ => none }
def DividesTwiceWrongFalsely : Prop := dividesTwiceRow.holds Try.pinned (OpenSpec.ofChange dividesTwiceWrong)

/-- 'balefirelaw03.DividesPower': WHATEVER THE INPUT: true; the input reads as it did. -/
def dividesPowerSpec : ChangeSpec := { name := "dividesPower", fn := fun _ => fun
  | [d1, d2] => { results := [.lit (.bool true)], args := [d1, d2] }
  | _ => none }
def dividesPowerRow : OpenClaim := { program := "ytgfgicpffajgdaa", sum := "506fe3184c3b687397c405b5bc513c34b4bf23c3961629344e322b74b3e3c295", func := "balefire/balefirelaw03.DividesPower", spec := "dividesPower", inPlace := ["math/bits.Add64", "math/bits.Sub64"], apart := false }
def DividesPowerSaid : Prop := dividesPowerRow.holds Try.pinned (OpenSpec.ofChange dividesPowerSpec)

/-- ITS FALSE NEIGHBOUR: 'it returns false'. Refute it at one input. -/
def dividesPowerWrong : ChangeSpec := { name := "dividesPower", fn := fun _ => fun
  | [d1, d2] => { results := [.lit (.bool false)], args := [d1, d2] }
  | _ => none }
def DividesPowerWrongFalsely : Prop := dividesPowerRow.holds Try.pinned (OpenSpec.ofChange dividesPowerWrong)

/- THE SECOND FORM. 'bulk': how many values and letters a reading holds, each counted each time it is reached (what is shared counts as often as it is met; a slice's spare places count too). A statement '..UptoSaid' is the law's where the arguments, and the package variables that the reading takes, are together of bulk at most 1048576: NARROWER than '..Said'. Prove '..Said' where nothing that the law and all that it calls make is longer than what came in: it says more and counts as full. Else prove '..UptoSaid'. A law counts once. -/
mutual
def uptoBulk {H : Type} : DataW H → Nat
  | .lit (.string bytes) => bytes.length + 1
  | .lit _ => 1
  | .nil => 1
  | .ptr d => uptoBulk d + 1
  | .slice elems spare => uptoBulkAll elems + uptoBulkAll spare + 1
  | .agg parts => uptoBulkAll parts + 1
  | .iface _ d => uptoBulk d + 1
  | .map entries => uptoBulkEntries entries + 1
  | .held _ => 1
def uptoBulkAll {H : Type} : List (DataW H) → Nat
  | [] => 0
  | d :: r => uptoBulk d + uptoBulkAll r
def uptoBulkEntries {H : Type} : List (Lit × DataW H) → Nat
  | [] => 0
  | x :: r => uptoBulkEntry x + uptoBulkEntries r
def uptoBulkEntry {H : Type} : Lit × DataW H → Nat
  | (.string bytes, d) => bytes.length + uptoBulk d + 1
  | (_, d) => uptoBulk d + 1
 end
def uptoSmall : (H : Type) → List (DataW H) → Bool := fun _ ds => decide (uptoBulkAll ds ≤ 1048576)
def OpenSpec.upto (s : _root_.Go.ChangeSpec) : _root_.Go.OpenSpec := { _root_.Go.OpenSpec.ofChange s with cond := some uptoSmall }

/-- 'balefirelaw02.LimbsOf', WHERE WHAT IT READS IS OF BULK AT MOST 1048576: true; the input reads as it did. -/
def limbsOfUptoRow : OpenClaim := { program := "ytgfgicpffajgdaa", sum := "506fe3184c3b687397c405b5bc513c34b4bf23c3961629344e322b74b3e3c295", func := "balefire/balefirelaw02.LimbsOf", spec := "limbsOf", inPlace := ["math/bits.Add64", "math/bits.Sub64"], apart := false, narrowed := true }
def LimbsOfUptoSaid : Prop := limbsOfUptoRow.holds Try.pinned (OpenSpec.upto limbsOfSpec)

/-- 'balefirelaw02.LimbsProducts', WHERE WHAT IT READS IS OF BULK AT MOST 1048576: true; the input reads as it did. -/
def limbsProductsUptoRow : OpenClaim := { program := "ytgfgicpffajgdaa", sum := "506fe3184c3b687397c405b5bc513c34b4bf23c3961629344e322b74b3e3c295", func := "balefire/balefirelaw02.LimbsProducts", spec := "limbsProducts", inPlace := ["math/bits.Add64", "math/bits.Sub64"], apart := false, narrowed := true }
def LimbsProductsUptoSaid : Prop := limbsProductsUptoRow.holds Try.pinned (OpenSpec.upto limbsProductsSpec)

/-- 'balefirelaw03.DividesOf', WHERE WHAT IT READS IS OF BULK AT MOST 1048576: true; the input reads as it did. -/
def dividesOfUptoRow : OpenClaim := { program := "ytgfgicpffajgdaa", sum := "506fe3184c3b687397c405b5bc513c34b4bf23c3961629344e322b74b3e3c295", func := "balefire/balefirelaw03.DividesOf", spec := "dividesOf", inPlace := ["math/bits.Add64", "math/bits.Sub64"], named := ["math/bits.divideError", "math/bits.overflowError"], apart := false, narrowed := true }
def DividesOfUptoSaid : Prop := dividesOfUptoRow.holds Try.pinned (OpenSpec.upto dividesOfSpec)

/-- 'balefirelaw03.DividesBack', WHERE WHAT IT READS IS OF BULK AT MOST 1048576: true; the input reads as it did. -/
def dividesBackUptoRow : OpenClaim := { program := "ytgfgicpffajgdaa", sum := "506fe3184c3b687397c405b5bc513c34b4bf23c3961629344e322b74b3e3c295", func := "balefire/balefirelaw03.DividesBack", spec := "dividesBack", inPlace := ["math/bits.Add64", "math/bits.Sub64"], apart := false, narrowed := true }
def DividesBackUptoSaid : Prop := dividesBackUptoRow.holds Try.pinned (OpenSpec.upto dividesBackSpec)

/-- 'balefirelaw03.DividesWide', WHERE WHAT IT READS IS OF BULK AT MOST 1048576: true; the input reads as it did. -/
def dividesWideUptoRow : OpenClaim := { program := "ytgfgicpffajgdaa", sum := "506fe3184c3b687397c405b5bc513c34b4bf23c3961629344e322b74b3e3c295", func := "balefire/balefirelaw03.DividesWide", spec := "dividesWide", inPlace := ["math/bits.Add64", "math/bits.Sub64"], apart := false, narrowed := true }
def DividesWideUptoSaid : Prop := dividesWideUptoRow.holds Try.pinned (OpenSpec.upto dividesWideSpec)

/-- 'balefirelaw03.DividesAgain', WHERE WHAT IT READS IS OF BULK AT MOST 1048576: true; the input reads as it did. -/
def dividesAgainUptoRow : OpenClaim := { program := "ytgfgicpffajgdaa", sum := "506fe3184c3b687397c405b5bc513c34b4bf23c3961629344e322b74b3e3c295", func := "balefire/balefirelaw03.DividesAgain", spec := "dividesAgain", inPlace := ["math/bits.Add64", "math/bits.Sub64"], apart := false, narrowed := true }
def DividesAgainUptoSaid : Prop := dividesAgainUptoRow.holds Try.pinned (OpenSpec.upto dividesAgainSpec)

/-- 'balefirelaw03.DividesCommon', WHERE WHAT IT READS IS OF BULK AT MOST 1048576: true; the input reads as it did. -/
def dividesCommonUptoRow : OpenClaim := { program := "ytgfgicpffajgdaa", sum := "506fe3184c3b687397c405b5bc513c34b4bf23c3961629344e322b74b3e3c295", func := "balefire/balefirelaw03.DividesCommon", spec := "dividesCommon", inPlace := ["math/bits.Add64", "math/bits.Sub64"], apart := false, narrowed := true }
def DividesCommonUptoSaid : Prop := dividesCommonUptoRow.holds Try.pinned (OpenSpec.upto dividesCommonSpec)

/-- 'balefirelaw03.DividesTimes', WHERE WHAT IT READS IS OF BULK AT MOST 1048576: true; the input reads as it did. -/
def dividesTimesUptoRow : OpenClaim := { program := "ytgfgicpffajgdaa", sum := "506fe3184c3b687397c405b5bc513c34b4bf23c3961629344e322b74b3e3c295", func := "balefire/balefirelaw03.DividesTimes", spec := "dividesTimes", inPlace := ["math/bits.Add64", "math/bits.Sub64"], apart := false, narrowed := true }
def DividesTimesUptoSaid : Prop := dividesTimesUptoRow.holds Try.pinned (OpenSpec.upto dividesTimesSpec)

/-- 'balefirelaw03.DividesTwice', WHERE WHAT IT READS IS OF BULK AT MOST 1048576: true; the input reads as it did. -/
def dividesTwiceUptoRow : OpenClaim := { program := "ytgfgicpffajgdaa", sum := "506fe3184c3b687397c405b5bc513c34b4bf23c3961629344e322b74b3e3c295", func := "balefire/balefirelaw03.DividesTwice", spec := "dividesTwice", inPlace := ["math/bits.Add64", "math/bits.Sub64"], apart := false, narrowed := true }
def DividesTwiceUptoSaid : Prop := dividesTwiceUptoRow.holds Try.pinned (OpenSpec.upto dividesTwiceSpec)

/-- 'balefirelaw03.DividesPower', WHERE WHAT IT READS IS OF BULK AT MOST 1048576: true; the input reads as it did. -/
def dividesPowerUptoRow : OpenClaim := { program := "ytgfgicpffajgdaa", sum := "506fe3184c3b687397c405b5bc513c34b4bf23c3961629344e322b74b3e3c295", func := "balefire/balefirelaw03.DividesPower", spec := "dividesPower", inPlace := ["math/bits.Add64", "math/bits.Sub64"], apart := false, narrowed := true }
def DividesPowerUptoSaid : Prop := dividesPowerUptoRow.holds Try.pinned (OpenSpec.upto dividesPowerSpec)

end Rows
end Go.Proofs.Ytgfgicpffajgdaa
