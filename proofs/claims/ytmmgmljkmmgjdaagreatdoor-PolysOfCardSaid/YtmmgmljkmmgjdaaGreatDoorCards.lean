/-
  DERIVED. GIVEN WITH THE SEED: THE CARDS: each row of YtmmgmljkmmgjdaaGreatDoorRows.lean that lists a variable, with what it lists TIED to the program's text (the seventh form; the later family's looks); each row that meets fmt, with fmt's text TOLD by the authors' own Lean function (tested against real Go, not proved from fmt's source: count such statements apart). THE CARD IS WHAT COUNTS. Prove the row's statement (the work); the ties are given (YtmmgmljkmmgjdaaGreatDoorTie.lean); close each card by the builder's one call (the guide's Derived/Test/ToyasCard.lean, 'card_holds'). Laid BY PROGRAM, IN A SANDBOX (cutbox-door.mjs). By AI agents, Wed Nov 11 2026. No macro, syntax, notation, axiom, sorry.
-/
import Derived.Test.YtmmgmljkmmgjdaaGreatDoorRows
import GoSem.ClaimSeven
namespace Go.Proofs.YtmmgmljkmmgjdaaGreatDoor
namespace Rows

/-- THE TIED CARD OF 'balefirelaw11.SharesOf'. -/
def sharesOfCard : Claim7 := { stood := { row := sharesOfRow, standIns := [], harness := (true, "0d3b4a694a38ad3984d684144c9ac68cbb6f67485aea9d354d42ba198de5fa2d"), looks := false }, kinds := [], alts := [], laidByText := true, laidKinds := [.data, .data, .data], laidTests := true, laidLooks := .later }
def SharesOfCardSaid : Prop := Claim7.holds Tryz.pinned (.plain (OpenSpec.ofChange sharesOfSpec)) sharesOfCard

/-- THE TIED CARD OF 'balefirelaw10.PolysOf'. -/
def polysOfCard : Claim7 := { stood := { row := polysOfRow, standIns := [], harness := (true, "0d3b4a694a38ad3984d684144c9ac68cbb6f67485aea9d354d42ba198de5fa2d"), looks := false }, kinds := [], alts := [], laidByText := true, laidKinds := [.data, .data, .data], laidTests := true, laidLooks := .later }
def PolysOfCardSaid : Prop := Claim7.holds Tryz.pinned (.plain (OpenSpec.ofChange polysOfSpec)) polysOfCard

/-- THE SECOND FORM's CARD OF 'balefirelaw11.SharesOf'. -/
def sharesOfUptoCard : Claim7 := { stood := { row := sharesOfUptoRow, standIns := [], harness := (true, "0d3b4a694a38ad3984d684144c9ac68cbb6f67485aea9d354d42ba198de5fa2d"), looks := false }, kinds := [], alts := [], laidByText := true, laidKinds := [.data, .data, .data], laidTests := true, laidLooks := .later }
def SharesOfUptoCardSaid : Prop := Claim7.holds Tryz.pinned (.plain (OpenSpec.upto sharesOfSpec)) sharesOfUptoCard

/-- THE SECOND FORM's CARD OF 'balefirelaw10.PolysOf'. -/
def polysOfUptoCard : Claim7 := { stood := { row := polysOfUptoRow, standIns := [], harness := (true, "0d3b4a694a38ad3984d684144c9ac68cbb6f67485aea9d354d42ba198de5fa2d"), looks := false }, kinds := [], alts := [], laidByText := true, laidKinds := [.data, .data, .data], laidTests := true, laidLooks := .later }
def PolysOfUptoCardSaid : Prop := Claim7.holds Tryz.pinned (.plain (OpenSpec.upto polysOfSpec)) polysOfUptoCard
end Rows
end Go.Proofs.YtmmgmljkmmgjdaaGreatDoor
