/-
  DERIVED. GIVEN WITH THE SEED: THE CARDS: each row of YtjmmnpfedhkjbaaGreatDoorRows.lean that lists a variable, with what it lists TIED to the program's text (the seventh form; the later family's looks); each row that meets fmt, with fmt's text TOLD by the authors' own Lean function (tested against real Go, not proved from fmt's source: count such statements apart). THE CARD IS WHAT COUNTS. Prove the row's statement (the work); the ties are given (YtjmmnpfedhkjbaaGreatDoorTie.lean); close each card by the builder's one call (the guide's Derived/Test/ToyasCard.lean, 'card_holds'). Laid BY PROGRAM, IN A SANDBOX (cutbox-door.mjs). By AI agents, Wed Nov 11 2026. No macro, syntax, notation, axiom, sorry.
-/
import Derived.Test.YtjmmnpfedhkjbaaGreatDoorRows
import GoSem.ClaimSeven
namespace Go.Proofs.YtjmmnpfedhkjbaaGreatDoor
namespace Rows

/-- THE TIED CARD OF 'surdlaw01.WholeSplits'. -/
def wholeSplitsCard : Claim7 := { stood := { row := wholeSplitsRow, standIns := [], harness := (true, "23e8983c5195167679940190dca869c71cc8258c80fed9f9a43680bb84d26bb2"), looks := true }, kinds := [], alts := [], laidByText := true, laidKinds := [.data, .data, .data, .sentinel, .sentinel], laidTests := true, laidLooks := .later }
def WholeSplitsCardSaid : Prop := Claim7.holds Tryz.pinned (.plain (OpenSpec.ofChange wholeSplitsSpec)) wholeSplitsCard

/-- THE TIED CARD OF 'surdlaw01.WholeLaws'. -/
def wholeLawsCard : Claim7 := { stood := { row := wholeLawsRow, standIns := [], harness := (true, "23e8983c5195167679940190dca869c71cc8258c80fed9f9a43680bb84d26bb2"), looks := true }, kinds := [], alts := [], laidByText := true, laidKinds := [.data, .data, .data, .sentinel, .sentinel], laidTests := true, laidLooks := .later }
def WholeLawsCardSaid : Prop := Claim7.holds Tryz.pinned (.plain (OpenSpec.ofChange wholeLawsSpec)) wholeLawsCard

/-- THE SECOND FORM's CARD OF 'surdlaw01.WholeSplits'. -/
def wholeSplitsUptoCard : Claim7 := { stood := { row := wholeSplitsUptoRow, standIns := [], harness := (true, "23e8983c5195167679940190dca869c71cc8258c80fed9f9a43680bb84d26bb2"), looks := true }, kinds := [], alts := [], laidByText := true, laidKinds := [.data, .data, .data, .sentinel, .sentinel], laidTests := true, laidLooks := .later }
def WholeSplitsUptoCardSaid : Prop := Claim7.holds Tryz.pinned (.plain (OpenSpec.upto wholeSplitsSpec)) wholeSplitsUptoCard

/-- THE SECOND FORM's CARD OF 'surdlaw01.WholeLaws'. -/
def wholeLawsUptoCard : Claim7 := { stood := { row := wholeLawsUptoRow, standIns := [], harness := (true, "23e8983c5195167679940190dca869c71cc8258c80fed9f9a43680bb84d26bb2"), looks := true }, kinds := [], alts := [], laidByText := true, laidKinds := [.data, .data, .data, .sentinel, .sentinel], laidTests := true, laidLooks := .later }
def WholeLawsUptoCardSaid : Prop := Claim7.holds Tryz.pinned (.plain (OpenSpec.upto wholeLawsSpec)) wholeLawsUptoCard
end Rows
end Go.Proofs.YtjmmnpfedhkjbaaGreatDoor
