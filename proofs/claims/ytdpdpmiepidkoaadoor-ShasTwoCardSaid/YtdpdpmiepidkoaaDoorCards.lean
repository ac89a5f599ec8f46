/-
  DERIVED. GIVEN WITH THE SEED: THE CARDS: each row of YtdpdpmiepidkoaaDoorRows.lean that lists a variable, with what it lists TIED to the program's text (the seventh form; the later family's looks); each row that meets fmt, with fmt's text TOLD by the authors' own Lean function (tested against real Go, not proved from fmt's source: count such statements apart). THE CARD IS WHAT COUNTS. Prove the row's statement (the work); the ties are given (YtdpdpmiepidkoaaDoorTie.lean); close each card by the builder's one call (the guide's Derived/Test/ToyasCard.lean, 'card_holds'). Laid BY PROGRAM, IN A SANDBOX (cutbox-door.mjs). By AI agents, Wed Nov 11 2026. No macro, syntax, notation, axiom, sorry.
-/
import Derived.Test.YtdpdpmiepidkoaaDoorRows
import GoSem.ClaimSeven
namespace Go.Proofs.YtdpdpmiepidkoaaDoor
namespace Rows

/-- THE TIED CARD OF 'balefirelaw05.ShasOf'. -/
def shasOfCard : Claim7 := { stood := { row := shasOfRow, standIns := [], harness := (true, "f24a117c012e100bb26ac082a46d9117a28f9980c3f0450252ef19877f6212ec"), looks := false }, kinds := [], alts := [], laidByText := true, laidKinds := [.data, .data], laidTests := true, laidLooks := .later }
def ShasOfCardSaid : Prop := Claim7.holds Tryd.pinned (.plain (OpenSpec.ofChange shasOfSpec)) shasOfCard

/-- THE TIED CARD OF 'balefirelaw05.ShasParts'. -/
def shasPartsCard : Claim7 := { stood := { row := shasPartsRow, standIns := [], harness := (true, "f24a117c012e100bb26ac082a46d9117a28f9980c3f0450252ef19877f6212ec"), looks := false }, kinds := [], alts := [], laidByText := true, laidKinds := [.data, .data], laidTests := true, laidLooks := .later }
def ShasPartsCardSaid : Prop := Claim7.holds Tryd.pinned (.plain (OpenSpec.ofChange shasPartsSpec)) shasPartsCard

/-- THE TIED CARD OF 'balefirelaw05.ShasNone'. -/
def shasNoneCard : Claim7 := { stood := { row := shasNoneRow, standIns := [], harness := (true, "f24a117c012e100bb26ac082a46d9117a28f9980c3f0450252ef19877f6212ec"), looks := false }, kinds := [], alts := [], laidByText := true, laidKinds := [.data], laidTests := true, laidLooks := .later }
def ShasNoneCardSaid : Prop := Claim7.holds Tryd.pinned (.plain (OpenSpec.ofChange shasNoneSpec)) shasNoneCard

/-- THE TIED CARD OF 'balefirelaw05.ShasCut'. -/
def shasCutCard : Claim7 := { stood := { row := shasCutRow, standIns := [], harness := (true, "f24a117c012e100bb26ac082a46d9117a28f9980c3f0450252ef19877f6212ec"), looks := false }, kinds := [], alts := [], laidByText := true, laidKinds := [.data, .data], laidTests := true, laidLooks := .later }
def ShasCutCardSaid : Prop := Claim7.holds Tryd.pinned (.plain (OpenSpec.ofChange shasCutSpec)) shasCutCard

/-- THE TIED CARD OF 'balefirelaw05.ShasTwo'. -/
def shasTwoCard : Claim7 := { stood := { row := shasTwoRow, standIns := [], harness := (true, "f24a117c012e100bb26ac082a46d9117a28f9980c3f0450252ef19877f6212ec"), looks := false }, kinds := [], alts := [], laidByText := true, laidKinds := [.data, .data], laidTests := true, laidLooks := .later }
def ShasTwoCardSaid : Prop := Claim7.holds Tryd.pinned (.plain (OpenSpec.ofChange shasTwoSpec)) shasTwoCard

/-- THE SECOND FORM's CARD OF 'balefirelaw05.ShasOf'. -/
def shasOfUptoCard : Claim7 := { stood := { row := shasOfUptoRow, standIns := [], harness := (true, "f24a117c012e100bb26ac082a46d9117a28f9980c3f0450252ef19877f6212ec"), looks := false }, kinds := [], alts := [], laidByText := true, laidKinds := [.data, .data], laidTests := true, laidLooks := .later }
def ShasOfUptoCardSaid : Prop := Claim7.holds Tryd.pinned (.plain (OpenSpec.upto shasOfSpec)) shasOfUptoCard

/-- THE SECOND FORM's CARD OF 'balefirelaw05.ShasParts'. -/
def shasPartsUptoCard : Claim7 := { stood := { row := shasPartsUptoRow, standIns := [], harness := (true, "f24a117c012e100bb26ac082a46d9117a28f9980c3f0450252ef19877f6212ec"), looks := false }, kinds := [], alts := [], laidByText := true, laidKinds := [.data, .data], laidTests := true, laidLooks := .later }
def ShasPartsUptoCardSaid : Prop := Claim7.holds Tryd.pinned (.plain (OpenSpec.upto shasPartsSpec)) shasPartsUptoCard

/-- THE SECOND FORM's CARD OF 'balefirelaw05.ShasNone'. -/
def shasNoneUptoCard : Claim7 := { stood := { row := shasNoneUptoRow, standIns := [], harness := (true, "f24a117c012e100bb26ac082a46d9117a28f9980c3f0450252ef19877f6212ec"), looks := false }, kinds := [], alts := [], laidByText := true, laidKinds := [.data], laidTests := true, laidLooks := .later }
def ShasNoneUptoCardSaid : Prop := Claim7.holds Tryd.pinned (.plain (OpenSpec.upto shasNoneSpec)) shasNoneUptoCard

/-- THE SECOND FORM's CARD OF 'balefirelaw05.ShasCut'. -/
def shasCutUptoCard : Claim7 := { stood := { row := shasCutUptoRow, standIns := [], harness := (true, "f24a117c012e100bb26ac082a46d9117a28f9980c3f0450252ef19877f6212ec"), looks := false }, kinds := [], alts := [], laidByText := true, laidKinds := [.data, .data], laidTests := true, laidLooks := .later }
def ShasCutUptoCardSaid : Prop := Claim7.holds Tryd.pinned (.plain (OpenSpec.upto shasCutSpec)) shasCutUptoCard

/-- THE SECOND FORM's CARD OF 'balefirelaw05.ShasTwo'. -/
def shasTwoUptoCard : Claim7 := { stood := { row := shasTwoUptoRow, standIns := [], harness := (true, "f24a117c012e100bb26ac082a46d9117a28f9980c3f0450252ef19877f6212ec"), looks := false }, kinds := [], alts := [], laidByText := true, laidKinds := [.data, .data], laidTests := true, laidLooks := .later }
def ShasTwoUptoCardSaid : Prop := Claim7.holds Tryd.pinned (.plain (OpenSpec.upto shasTwoSpec)) shasTwoUptoCard
end Rows
end Go.Proofs.YtdpdpmiepidkoaaDoor
