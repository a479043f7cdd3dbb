/-
  DERIVED. GIVEN WITH THE SEED: THE CARDS: each row of YtfocmbnhkldnfaaGreatDoorRows.lean that lists a variable, with what it lists TIED to the program's text (the seventh form; the later family's looks); each row that meets fmt, with fmt's text TOLD by the authors' own Lean function (tested against real Go, not proved from fmt's source: count such statements apart). THE CARD IS WHAT COUNTS. Prove the row's statement (the work); the ties are given (YtfocmbnhkldnfaaGreatDoorTie.lean); close each card by the builder's one call (the guide's Derived/Test/ToyasCard.lean, 'card_holds'). Laid BY PROGRAM, IN A SANDBOX (cutbox-door.mjs). By AI agents, Wed Nov 11 2026. No macro, syntax, notation, axiom, sorry.
-/
import Derived.Test.YtfocmbnhkldnfaaGreatDoorRows
import GoSem.ClaimSeven
namespace Go.Proofs.YtfocmbnhkldnfaaGreatDoor
namespace Rows

/-- THE TIED CARD OF 'wicketlaw06.CallsOne'. -/
def callsOneCard : Claim7 := { stood := { row := callsOneRow, standIns := [], harness := (true, "d56ef51589c8ef1ac3738fa4dad53c849c4d49b78eb84b94cf7a0e8467219190"), looks := true }, kinds := [], alts := [], laidByText := true, laidKinds := [.data, .data, .data, .data, .sentinel, .sentinel, .data, .pinned], laidTests := true, laidLooks := .later }
def CallsOneCardSaid : Prop := Claim7.holds Tryz.pinned (.plain (OpenSpec.ofChange callsOneSpec)) callsOneCard

/-- THE TIED CARD OF 'wicketlaw06.CallsReads'. -/
def callsReadsCard : Claim7 := { stood := { row := callsReadsRow, standIns := [], harness := (true, "d56ef51589c8ef1ac3738fa4dad53c849c4d49b78eb84b94cf7a0e8467219190"), looks := true }, kinds := [], alts := [], laidByText := true, laidKinds := [.data, .data, .data, .data, .sentinel, .sentinel, .data, .pinned], laidTests := true, laidLooks := .later }
def CallsReadsCardSaid : Prop := Claim7.holds Tryz.pinned (.plain (OpenSpec.ofChange callsReadsSpec)) callsReadsCard

/-- THE TIED CARD OF 'wicketlaw06.CallsResults'. -/
def callsResultsCard : Claim7 := { stood := { row := callsResultsRow, standIns := [], harness := (true, "d56ef51589c8ef1ac3738fa4dad53c849c4d49b78eb84b94cf7a0e8467219190"), looks := true }, kinds := [], alts := [], laidByText := true, laidKinds := [.data, .data, .data, .data, .sentinel, .sentinel, .data, .pinned], laidTests := true, laidLooks := .later }
def CallsResultsCardSaid : Prop := Claim7.holds Tryz.pinned (.plain (OpenSpec.ofChange callsResultsSpec)) callsResultsCard

/-- THE TIED CARD OF 'wicketlaw06.CallsSame'. -/
def callsSameCard : Claim7 := { stood := { row := callsSameRow, standIns := [], harness := (true, "d56ef51589c8ef1ac3738fa4dad53c849c4d49b78eb84b94cf7a0e8467219190"), looks := true }, kinds := [], alts := [], laidByText := true, laidKinds := [.data, .data, .data, .data, .sentinel, .sentinel, .data, .pinned], laidTests := true, laidLooks := .later }
def CallsSameCardSaid : Prop := Claim7.holds Tryz.pinned (.plain (OpenSpec.ofChange callsSameSpec)) callsSameCard

/-- THE TIED CARD OF 'wicketlaw06.CallsLong'. -/
def callsLongCard : Claim7 := { stood := { row := callsLongRow, standIns := [], harness := (true, "d56ef51589c8ef1ac3738fa4dad53c849c4d49b78eb84b94cf7a0e8467219190"), looks := true }, kinds := [], alts := [], laidByText := true, laidKinds := [.data, .data, .data, .data, .sentinel, .sentinel, .data, .pinned], laidTests := true, laidLooks := .later }
def CallsLongCardSaid : Prop := Claim7.holds Tryz.pinned (.plain (OpenSpec.ofChange callsLongSpec)) callsLongCard

/-- THE TIED CARD OF 'wicketlaw06.CallsBack'. -/
def callsBackCard : Claim7 := { stood := { row := callsBackRow, standIns := [], harness := (true, "d56ef51589c8ef1ac3738fa4dad53c849c4d49b78eb84b94cf7a0e8467219190"), looks := true }, kinds := [], alts := [], laidByText := true, laidKinds := [.data, .data, .data, .data, .sentinel, .sentinel, .data, .pinned], laidTests := true, laidLooks := .later }
def CallsBackCardSaid : Prop := Claim7.holds Tryz.pinned (.plain (OpenSpec.ofChange callsBackSpec)) callsBackCard

/-- THE SECOND FORM's CARD OF 'wicketlaw06.CallsOne'. -/
def callsOneUptoCard : Claim7 := { stood := { row := callsOneUptoRow, standIns := [], harness := (true, "d56ef51589c8ef1ac3738fa4dad53c849c4d49b78eb84b94cf7a0e8467219190"), looks := true }, kinds := [], alts := [], laidByText := true, laidKinds := [.data, .data, .data, .data, .sentinel, .sentinel, .data, .pinned], laidTests := true, laidLooks := .later }
def CallsOneUptoCardSaid : Prop := Claim7.holds Tryz.pinned (.plain (OpenSpec.upto callsOneSpec)) callsOneUptoCard

/-- THE SECOND FORM's CARD OF 'wicketlaw06.CallsReads'. -/
def callsReadsUptoCard : Claim7 := { stood := { row := callsReadsUptoRow, standIns := [], harness := (true, "d56ef51589c8ef1ac3738fa4dad53c849c4d49b78eb84b94cf7a0e8467219190"), looks := true }, kinds := [], alts := [], laidByText := true, laidKinds := [.data, .data, .data, .data, .sentinel, .sentinel, .data, .pinned], laidTests := true, laidLooks := .later }
def CallsReadsUptoCardSaid : Prop := Claim7.holds Tryz.pinned (.plain (OpenSpec.upto callsReadsSpec)) callsReadsUptoCard

/-- THE SECOND FORM's CARD OF 'wicketlaw06.CallsResults'. -/
def callsResultsUptoCard : Claim7 := { stood := { row := callsResultsUptoRow, standIns := [], harness := (true, "d56ef51589c8ef1ac3738fa4dad53c849c4d49b78eb84b94cf7a0e8467219190"), looks := true }, kinds := [], alts := [], laidByText := true, laidKinds := [.data, .data, .data, .data, .sentinel, .sentinel, .data, .pinned], laidTests := true, laidLooks := .later }
def CallsResultsUptoCardSaid : Prop := Claim7.holds Tryz.pinned (.plain (OpenSpec.upto callsResultsSpec)) callsResultsUptoCard

/-- THE SECOND FORM's CARD OF 'wicketlaw06.CallsSame'. -/
def callsSameUptoCard : Claim7 := { stood := { row := callsSameUptoRow, standIns := [], harness := (true, "d56ef51589c8ef1ac3738fa4dad53c849c4d49b78eb84b94cf7a0e8467219190"), looks := true }, kinds := [], alts := [], laidByText := true, laidKinds := [.data, .data, .data, .data, .sentinel, .sentinel, .data, .pinned], laidTests := true, laidLooks := .later }
def CallsSameUptoCardSaid : Prop := Claim7.holds Tryz.pinned (.plain (OpenSpec.upto callsSameSpec)) callsSameUptoCard

/-- THE SECOND FORM's CARD OF 'wicketlaw06.CallsLong'. -/
def callsLongUptoCard : Claim7 := { stood := { row := callsLongUptoRow, standIns := [], harness := (true, "d56ef51589c8ef1ac3738fa4dad53c849c4d49b78eb84b94cf7a0e8467219190"), looks := true }, kinds := [], alts := [], laidByText := true, laidKinds := [.data, .data, .data, .data, .sentinel, .sentinel, .data, .pinned], laidTests := true, laidLooks := .later }
def CallsLongUptoCardSaid : Prop := Claim7.holds Tryz.pinned (.plain (OpenSpec.upto callsLongSpec)) callsLongUptoCard

/-- THE SECOND FORM's CARD OF 'wicketlaw06.CallsBack'. -/
def callsBackUptoCard : Claim7 := { stood := { row := callsBackUptoRow, standIns := [], harness := (true, "d56ef51589c8ef1ac3738fa4dad53c849c4d49b78eb84b94cf7a0e8467219190"), looks := true }, kinds := [], alts := [], laidByText := true, laidKinds := [.data, .data, .data, .data, .sentinel, .sentinel, .data, .pinned], laidTests := true, laidLooks := .later }
def CallsBackUptoCardSaid : Prop := Claim7.holds Tryz.pinned (.plain (OpenSpec.upto callsBackSpec)) callsBackUptoCard
end Rows
end Go.Proofs.YtfocmbnhkldnfaaGreatDoor
