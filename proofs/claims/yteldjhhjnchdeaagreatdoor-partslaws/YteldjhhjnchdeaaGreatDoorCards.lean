/-
  DERIVED. GIVEN WITH THE SEED: THE CARDS: each row of YteldjhhjnchdeaaGreatDoorRows.lean that lists a variable, with what it lists TIED to the program's text (the seventh form; the later family's looks); each row that meets fmt, with fmt's text TOLD by the authors' own Lean function (tested against real Go, not proved from fmt's source: count such statements apart). THE CARD IS WHAT COUNTS. Prove the row's statement (the work); the ties are given (YteldjhhjnchdeaaGreatDoorTie.lean); close each card by the builder's one call (the guide's Derived/Test/ToyasCard.lean, 'card_holds'). Laid BY PROGRAM, IN A SANDBOX (cutbox-door.mjs). By AI agents, Wed Nov 11 2026. No macro, syntax, notation, axiom, sorry.
-/
import Derived.Test.YteldjhhjnchdeaaGreatDoorRows
import GoSem.ClaimSeven
namespace Go.Proofs.YteldjhhjnchdeaaGreatDoor
namespace Rows

/-- THE TIED CARD OF 'surdlaw04.PartsGCDs'. -/
def partsGCDsCard : Claim7 := { stood := { row := partsGCDsRow, standIns := [], harness := (true, "36a302cb96c7806eeccccee75302a396afd60ba81db89e55f207b87825fb8e36"), looks := true }, kinds := [], alts := [], laidByText := true, laidKinds := [.data, .data, .data, .data, .sentinel, .sentinel, .pinned], laidTests := true, laidLooks := .later }
def PartsGCDsCardSaid : Prop := Claim7.holds Tryz.pinned (.plain (OpenSpec.ofChange partsGCDsSpec)) partsGCDsCard

/-- THE TIED CARD OF 'surdlaw04.PartsFrees'. -/
def partsFreesCard : Claim7 := { stood := { row := partsFreesRow, standIns := [], harness := (true, "36a302cb96c7806eeccccee75302a396afd60ba81db89e55f207b87825fb8e36"), looks := true }, kinds := [], alts := [], laidByText := true, laidKinds := [.data, .data, .data, .data, .sentinel, .sentinel, .pinned], laidTests := true, laidLooks := .later }
def PartsFreesCardSaid : Prop := Claim7.holds Tryz.pinned (.plain (OpenSpec.ofChange partsFreesSpec)) partsFreesCard

/-- THE TIED CARD OF 'surdlaw04.PartsAll'. -/
def partsAllCard : Claim7 := { stood := { row := partsAllRow, standIns := [], harness := (true, "36a302cb96c7806eeccccee75302a396afd60ba81db89e55f207b87825fb8e36"), looks := true }, kinds := [], alts := [], laidByText := true, laidKinds := [.data, .data, .data, .data, .sentinel, .sentinel, .pinned], laidTests := true, laidLooks := .later }
def PartsAllCardSaid : Prop := Claim7.holds Tryz.pinned (.plain (OpenSpec.ofChange partsAllSpec)) partsAllCard

/-- THE TIED CARD OF 'surdlaw04.PartsLaws'. -/
def partsLawsCard : Claim7 := { stood := { row := partsLawsRow, standIns := [], harness := (true, "36a302cb96c7806eeccccee75302a396afd60ba81db89e55f207b87825fb8e36"), looks := true }, kinds := [], alts := [], laidByText := true, laidKinds := [.data, .data, .data, .data, .sentinel, .sentinel, .pinned], laidTests := true, laidLooks := .later }
def PartsLawsCardSaid : Prop := Claim7.holds Tryz.pinned (.plain (OpenSpec.ofChange partsLawsSpec)) partsLawsCard

/-- THE SECOND FORM's CARD OF 'surdlaw04.PartsGCDs'. -/
def partsGCDsUptoCard : Claim7 := { stood := { row := partsGCDsUptoRow, standIns := [], harness := (true, "36a302cb96c7806eeccccee75302a396afd60ba81db89e55f207b87825fb8e36"), looks := true }, kinds := [], alts := [], laidByText := true, laidKinds := [.data, .data, .data, .data, .sentinel, .sentinel, .pinned], laidTests := true, laidLooks := .later }
def PartsGCDsUptoCardSaid : Prop := Claim7.holds Tryz.pinned (.plain (OpenSpec.upto partsGCDsSpec)) partsGCDsUptoCard

/-- THE SECOND FORM's CARD OF 'surdlaw04.PartsFrees'. -/
def partsFreesUptoCard : Claim7 := { stood := { row := partsFreesUptoRow, standIns := [], harness := (true, "36a302cb96c7806eeccccee75302a396afd60ba81db89e55f207b87825fb8e36"), looks := true }, kinds := [], alts := [], laidByText := true, laidKinds := [.data, .data, .data, .data, .sentinel, .sentinel, .pinned], laidTests := true, laidLooks := .later }
def PartsFreesUptoCardSaid : Prop := Claim7.holds Tryz.pinned (.plain (OpenSpec.upto partsFreesSpec)) partsFreesUptoCard

/-- THE SECOND FORM's CARD OF 'surdlaw04.PartsAll'. -/
def partsAllUptoCard : Claim7 := { stood := { row := partsAllUptoRow, standIns := [], harness := (true, "36a302cb96c7806eeccccee75302a396afd60ba81db89e55f207b87825fb8e36"), looks := true }, kinds := [], alts := [], laidByText := true, laidKinds := [.data, .data, .data, .data, .sentinel, .sentinel, .pinned], laidTests := true, laidLooks := .later }
def PartsAllUptoCardSaid : Prop := Claim7.holds Tryz.pinned (.plain (OpenSpec.upto partsAllSpec)) partsAllUptoCard

/-- THE SECOND FORM's CARD OF 'surdlaw04.PartsLaws'. -/
def partsLawsUptoCard : Claim7 := { stood := { row := partsLawsUptoRow, standIns := [], harness := (true, "36a302cb96c7806eeccccee75302a396afd60ba81db89e55f207b87825fb8e36"), looks := true }, kinds := [], alts := [], laidByText := true, laidKinds := [.data, .data, .data, .data, .sentinel, .sentinel, .pinned], laidTests := true, laidLooks := .later }
def PartsLawsUptoCardSaid : Prop := Claim7.holds Tryz.pinned (.plain (OpenSpec.upto partsLawsSpec)) partsLawsUptoCard
end Rows
end Go.Proofs.YteldjhhjnchdeaaGreatDoor
