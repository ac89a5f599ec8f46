/-
  DERIVED. GIVEN WITH THE SEED: THE CARDS: each row of YtkmjfaaelkmnkaaDoorRows.lean that lists a variable, with what it lists TIED to the program's text (the seventh form; the later family's looks); each row that meets fmt, with fmt's text TOLD by the authors' own Lean function (tested against real Go, not proved from fmt's source: count such statements apart). THE CARD IS WHAT COUNTS. Prove the row's statement (the work); the ties are given (YtkmjfaaelkmnkaaDoorTie.lean); close each card by the builder's one call (the guide's Derived/Test/ToyasCard.lean, 'card_holds'). Laid BY PROGRAM, IN A SANDBOX (cutbox-door.mjs). By AI agents, Wed Nov 11 2026. No macro, syntax, notation, axiom, sorry.
-/
import Derived.Test.YtkmjfaaelkmnkaaDoorRows
import GoSem.ClaimSeven
namespace Go.Proofs.YtkmjfaaelkmnkaaDoor
namespace Rows

/-- THE TIED CARD OF 'balefirelaw05.ShasCut'. -/
def shasCutCard : Claim7 := { stood := { row := shasCutRow, standIns := [], harness := (true, "f66381ca205bd049de5933f36a1400c4c0682a500ac95200cf3ccac1e0d120f9"), looks := false }, kinds := [], alts := [], laidByText := true, laidKinds := [.data, .data], laidTests := true, laidLooks := .later }
def ShasCutCardSaid : Prop := Claim7.holds Tryd.pinned (.plain (OpenSpec.ofChange shasCutSpec)) shasCutCard

/-- THE TIED CARD OF 'balefirelaw06.HashesOf'. -/
def hashesOfCard : Claim7 := { stood := { row := hashesOfRow, standIns := [], harness := (true, "f66381ca205bd049de5933f36a1400c4c0682a500ac95200cf3ccac1e0d120f9"), looks := false }, kinds := [], alts := [], laidByText := true, laidKinds := [.data, .data], laidTests := true, laidLooks := .later }
def HashesOfCardSaid : Prop := Claim7.holds Tryd.pinned (.plain (OpenSpec.ofChange hashesOfSpec)) hashesOfCard

/-- THE TIED CARD OF 'balefirelaw06.HashesBytes'. -/
def hashesBytesCard : Claim7 := { stood := { row := hashesBytesRow, standIns := [], harness := (true, "f66381ca205bd049de5933f36a1400c4c0682a500ac95200cf3ccac1e0d120f9"), looks := false }, kinds := [], alts := [], laidByText := true, laidKinds := [.data, .data], laidTests := true, laidLooks := .later }
def HashesBytesCardSaid : Prop := Claim7.holds Tryd.pinned (.plain (OpenSpec.ofChange hashesBytesSpec)) hashesBytesCard

/-- THE TIED CARD OF 'balefirelaw06.HashesNumber'. -/
def hashesNumberCard : Claim7 := { stood := { row := hashesNumberRow, standIns := [], harness := (true, "f66381ca205bd049de5933f36a1400c4c0682a500ac95200cf3ccac1e0d120f9"), looks := false }, kinds := [], alts := [], laidByText := true, laidKinds := [.data, .data], laidTests := true, laidLooks := .later }
def HashesNumberCardSaid : Prop := Claim7.holds Tryd.pinned (.plain (OpenSpec.ofChange hashesNumberSpec)) hashesNumberCard

/-- THE TIED CARD OF 'balefirelaw06.HashesHalves'. -/
def hashesHalvesCard : Claim7 := { stood := { row := hashesHalvesRow, standIns := [], harness := (true, "f66381ca205bd049de5933f36a1400c4c0682a500ac95200cf3ccac1e0d120f9"), looks := false }, kinds := [], alts := [], laidByText := true, laidKinds := [.data, .data], laidTests := true, laidLooks := .later }
def HashesHalvesCardSaid : Prop := Claim7.holds Tryd.pinned (.plain (OpenSpec.ofChange hashesHalvesSpec)) hashesHalvesCard

/-- THE SECOND FORM's CARD OF 'balefirelaw05.ShasCut'. -/
def shasCutUptoCard : Claim7 := { stood := { row := shasCutUptoRow, standIns := [], harness := (true, "f66381ca205bd049de5933f36a1400c4c0682a500ac95200cf3ccac1e0d120f9"), looks := false }, kinds := [], alts := [], laidByText := true, laidKinds := [.data, .data], laidTests := true, laidLooks := .later }
def ShasCutUptoCardSaid : Prop := Claim7.holds Tryd.pinned (.plain (OpenSpec.upto shasCutSpec)) shasCutUptoCard

/-- THE SECOND FORM's CARD OF 'balefirelaw06.HashesOf'. -/
def hashesOfUptoCard : Claim7 := { stood := { row := hashesOfUptoRow, standIns := [], harness := (true, "f66381ca205bd049de5933f36a1400c4c0682a500ac95200cf3ccac1e0d120f9"), looks := false }, kinds := [], alts := [], laidByText := true, laidKinds := [.data, .data], laidTests := true, laidLooks := .later }
def HashesOfUptoCardSaid : Prop := Claim7.holds Tryd.pinned (.plain (OpenSpec.upto hashesOfSpec)) hashesOfUptoCard

/-- THE SECOND FORM's CARD OF 'balefirelaw06.HashesBytes'. -/
def hashesBytesUptoCard : Claim7 := { stood := { row := hashesBytesUptoRow, standIns := [], harness := (true, "f66381ca205bd049de5933f36a1400c4c0682a500ac95200cf3ccac1e0d120f9"), looks := false }, kinds := [], alts := [], laidByText := true, laidKinds := [.data, .data], laidTests := true, laidLooks := .later }
def HashesBytesUptoCardSaid : Prop := Claim7.holds Tryd.pinned (.plain (OpenSpec.upto hashesBytesSpec)) hashesBytesUptoCard

/-- THE SECOND FORM's CARD OF 'balefirelaw06.HashesNumber'. -/
def hashesNumberUptoCard : Claim7 := { stood := { row := hashesNumberUptoRow, standIns := [], harness := (true, "f66381ca205bd049de5933f36a1400c4c0682a500ac95200cf3ccac1e0d120f9"), looks := false }, kinds := [], alts := [], laidByText := true, laidKinds := [.data, .data], laidTests := true, laidLooks := .later }
def HashesNumberUptoCardSaid : Prop := Claim7.holds Tryd.pinned (.plain (OpenSpec.upto hashesNumberSpec)) hashesNumberUptoCard

/-- THE SECOND FORM's CARD OF 'balefirelaw06.HashesHalves'. -/
def hashesHalvesUptoCard : Claim7 := { stood := { row := hashesHalvesUptoRow, standIns := [], harness := (true, "f66381ca205bd049de5933f36a1400c4c0682a500ac95200cf3ccac1e0d120f9"), looks := false }, kinds := [], alts := [], laidByText := true, laidKinds := [.data, .data], laidTests := true, laidLooks := .later }
def HashesHalvesUptoCardSaid : Prop := Claim7.holds Tryd.pinned (.plain (OpenSpec.upto hashesHalvesSpec)) hashesHalvesUptoCard
end Rows
end Go.Proofs.YtkmjfaaelkmnkaaDoor
