/-
  DERIVED. GIVEN WITH THE SEED: THE CARDS: each row of YtlphnfajhpkleaaDoorRows.lean that lists a variable, with what it lists TIED to the program's text (the seventh form; the later family's looks); each row that meets fmt, with fmt's text TOLD by the authors' own Lean function (tested against real Go, not proved from fmt's source: count such statements apart). THE CARD IS WHAT COUNTS. Prove the row's statement (the work); the ties are given (YtlphnfajhpkleaaDoorTie.lean); close each card by the builder's one call (the guide's Derived/Test/ToyasCard.lean, 'card_holds'). Laid BY PROGRAM, IN A SANDBOX (cutbox-door.mjs). By AI agents, Wed Nov 11 2026. No macro, syntax, notation, axiom, sorry.
-/
import Derived.Test.YtlphnfajhpkleaaDoorRows
import GoSem.ClaimSeven
namespace Go.Proofs.YtlphnfajhpkleaaDoor
namespace Rows

/-- THE TIED CARD OF 'balefirelaw13.SigsBack'. -/
def sigsBackCard : Claim7 := { stood := { row := sigsBackRow, standIns := [], harness := (true, "4f2d2ee03400c2cdf60b874c2a0ad4557d27dbc95559b8839154c74bf80a36cb"), looks := false }, kinds := [], alts := [], laidByText := true, laidKinds := [.data, .data], laidTests := true, laidLooks := .later }
def SigsBackCardSaid : Prop := Claim7.holds Tryd.pinned (.plain (OpenSpec.ofChange sigsBackSpec)) sigsBackCard

/-- THE TIED CARD OF 'balefirelaw13.SigsTwo'. -/
def sigsTwoCard : Claim7 := { stood := { row := sigsTwoRow, standIns := [], harness := (true, "4f2d2ee03400c2cdf60b874c2a0ad4557d27dbc95559b8839154c74bf80a36cb"), looks := false }, kinds := [], alts := [], laidByText := true, laidKinds := [.data, .data], laidTests := true, laidLooks := .later }
def SigsTwoCardSaid : Prop := Claim7.holds Tryd.pinned (.plain (OpenSpec.ofChange sigsTwoSpec)) sigsTwoCard

/-- THE TIED CARD OF 'balefirelaw13.SigsBounds'. -/
def sigsBoundsCard : Claim7 := { stood := { row := sigsBoundsRow, standIns := [], harness := (true, "4f2d2ee03400c2cdf60b874c2a0ad4557d27dbc95559b8839154c74bf80a36cb"), looks := false }, kinds := [], alts := [], laidByText := true, laidKinds := [.data, .data], laidTests := true, laidLooks := .later }
def SigsBoundsCardSaid : Prop := Claim7.holds Tryd.pinned (.plain (OpenSpec.ofChange sigsBoundsSpec)) sigsBoundsCard

/-- THE TIED CARD OF 'balefirelaw13.SigsMoved'. -/
def sigsMovedCard : Claim7 := { stood := { row := sigsMovedRow, standIns := [], harness := (true, "4f2d2ee03400c2cdf60b874c2a0ad4557d27dbc95559b8839154c74bf80a36cb"), looks := false }, kinds := [], alts := [], laidByText := true, laidKinds := [.data, .data], laidTests := true, laidLooks := .later }
def SigsMovedCardSaid : Prop := Claim7.holds Tryd.pinned (.plain (OpenSpec.ofChange sigsMovedSpec)) sigsMovedCard

/-- THE SECOND FORM's CARD OF 'balefirelaw13.SigsBack'. -/
def sigsBackUptoCard : Claim7 := { stood := { row := sigsBackUptoRow, standIns := [], harness := (true, "4f2d2ee03400c2cdf60b874c2a0ad4557d27dbc95559b8839154c74bf80a36cb"), looks := false }, kinds := [], alts := [], laidByText := true, laidKinds := [.data, .data], laidTests := true, laidLooks := .later }
def SigsBackUptoCardSaid : Prop := Claim7.holds Tryd.pinned (.plain (OpenSpec.upto sigsBackSpec)) sigsBackUptoCard

/-- THE SECOND FORM's CARD OF 'balefirelaw13.SigsTwo'. -/
def sigsTwoUptoCard : Claim7 := { stood := { row := sigsTwoUptoRow, standIns := [], harness := (true, "4f2d2ee03400c2cdf60b874c2a0ad4557d27dbc95559b8839154c74bf80a36cb"), looks := false }, kinds := [], alts := [], laidByText := true, laidKinds := [.data, .data], laidTests := true, laidLooks := .later }
def SigsTwoUptoCardSaid : Prop := Claim7.holds Tryd.pinned (.plain (OpenSpec.upto sigsTwoSpec)) sigsTwoUptoCard

/-- THE SECOND FORM's CARD OF 'balefirelaw13.SigsBounds'. -/
def sigsBoundsUptoCard : Claim7 := { stood := { row := sigsBoundsUptoRow, standIns := [], harness := (true, "4f2d2ee03400c2cdf60b874c2a0ad4557d27dbc95559b8839154c74bf80a36cb"), looks := false }, kinds := [], alts := [], laidByText := true, laidKinds := [.data, .data], laidTests := true, laidLooks := .later }
def SigsBoundsUptoCardSaid : Prop := Claim7.holds Tryd.pinned (.plain (OpenSpec.upto sigsBoundsSpec)) sigsBoundsUptoCard

/-- THE SECOND FORM's CARD OF 'balefirelaw13.SigsMoved'. -/
def sigsMovedUptoCard : Claim7 := { stood := { row := sigsMovedUptoRow, standIns := [], harness := (true, "4f2d2ee03400c2cdf60b874c2a0ad4557d27dbc95559b8839154c74bf80a36cb"), looks := false }, kinds := [], alts := [], laidByText := true, laidKinds := [.data, .data], laidTests := true, laidLooks := .later }
def SigsMovedUptoCardSaid : Prop := Claim7.holds Tryd.pinned (.plain (OpenSpec.upto sigsMovedSpec)) sigsMovedUptoCard
end Rows
end Go.Proofs.YtlphnfajhpkleaaDoor
