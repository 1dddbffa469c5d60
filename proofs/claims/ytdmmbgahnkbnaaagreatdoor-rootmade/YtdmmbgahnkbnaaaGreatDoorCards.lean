/-
  DERIVED. GIVEN WITH THE SEED: THE CARDS: each row of YtdmmbgahnkbnaaaGreatDoorRows.lean that lists a variable, with what it lists TIED to the program's text (the seventh form; the later family's looks); each row that meets fmt, with fmt's text TOLD by the authors' own Lean function (tested against real Go, not proved from fmt's source: count such statements apart). THE CARD IS WHAT COUNTS. Prove the row's statement (the work); the ties are given (YtdmmbgahnkbnaaaGreatDoorTie.lean); close each card by the builder's one call (the guide's Derived/Test/ToyasCard.lean, 'card_holds'). Laid BY PROGRAM, IN A SANDBOX (cutbox-door.mjs). By AI agents, Wed Nov 11 2026. No macro, syntax, notation, axiom, sorry.
-/
import Derived.Test.YtdmmbgahnkbnaaaGreatDoorRows
import GoSem.ClaimSeven
namespace Go.Proofs.YtdmmbgahnkbnaaaGreatDoor
namespace Rows

/-- THE TIED CARD OF 'surdlaw06.RootAll'. -/
def rootAllCard : Claim7 := { stood := { row := rootAllRow, standIns := [], harness := (true, "a65f7c5e53ecbf946c639cc63ba055ad5258268b8e3c19744454330eeb661fa8"), looks := true }, kinds := [], alts := [], laidByText := true, laidKinds := [.data, .data, .data, .data, .sentinel, .sentinel, .pinned], laidTests := true, laidLooks := .later }
def RootAllCardSaid : Prop := Claim7.holds Tryz.pinned (.plain (OpenSpec.ofChange rootAllSpec)) rootAllCard

/-- THE TIED CARD OF 'surdlaw06.RootCompares'. -/
def rootComparesCard : Claim7 := { stood := { row := rootComparesRow, standIns := [], harness := (true, "a65f7c5e53ecbf946c639cc63ba055ad5258268b8e3c19744454330eeb661fa8"), looks := true }, kinds := [], alts := [], laidByText := true, laidKinds := [.data, .data, .data, .data, .sentinel, .sentinel, .pinned], laidTests := true, laidLooks := .later }
def RootComparesCardSaid : Prop := Claim7.holds Tryz.pinned (.plain (OpenSpec.ofChange rootComparesSpec)) rootComparesCard

/-- THE TIED CARD OF 'surdlaw06.RootLaws'. -/
def rootLawsCard : Claim7 := { stood := { row := rootLawsRow, standIns := [], harness := (true, "a65f7c5e53ecbf946c639cc63ba055ad5258268b8e3c19744454330eeb661fa8"), looks := true }, kinds := [], alts := [], laidByText := true, laidKinds := [.data, .data, .data, .data, .sentinel, .sentinel, .pinned], laidTests := true, laidLooks := .later }
def RootLawsCardSaid : Prop := Claim7.holds Tryz.pinned (.plain (OpenSpec.ofChange rootLawsSpec)) rootLawsCard

/-- THE TIED CARD OF 'surdlaw06.RootMade'. -/
def rootMadeCard : Claim7 := { stood := { row := rootMadeRow, standIns := [], harness := (true, "a65f7c5e53ecbf946c639cc63ba055ad5258268b8e3c19744454330eeb661fa8"), looks := true }, kinds := [], alts := [], laidByText := true, laidKinds := [.data, .data, .data, .data, .sentinel, .sentinel, .pinned], laidTests := true, laidLooks := .later }
def RootMadeCardSaid : Prop := Claim7.holds Tryz.pinned (.plain (OpenSpec.ofChange rootMadeSpec)) rootMadeCard

/-- THE TIED CARD OF 'surdlaw06.RootDigits'. -/
def rootDigitsCard : Claim7 := { stood := { row := rootDigitsRow, standIns := [], harness := (true, "a65f7c5e53ecbf946c639cc63ba055ad5258268b8e3c19744454330eeb661fa8"), looks := true }, kinds := [], alts := [], laidByText := true, laidKinds := [.data, .data, .data, .data, .sentinel, .sentinel, .pinned], laidTests := true, laidLooks := .later }
def RootDigitsCardSaid : Prop := Claim7.holds Tryz.pinned (.plain (OpenSpec.ofChange rootDigitsSpec)) rootDigitsCard

/-- THE SECOND FORM's CARD OF 'surdlaw06.RootAll'. -/
def rootAllUptoCard : Claim7 := { stood := { row := rootAllUptoRow, standIns := [], harness := (true, "a65f7c5e53ecbf946c639cc63ba055ad5258268b8e3c19744454330eeb661fa8"), looks := true }, kinds := [], alts := [], laidByText := true, laidKinds := [.data, .data, .data, .data, .sentinel, .sentinel, .pinned], laidTests := true, laidLooks := .later }
def RootAllUptoCardSaid : Prop := Claim7.holds Tryz.pinned (.plain (OpenSpec.upto rootAllSpec)) rootAllUptoCard

/-- THE SECOND FORM's CARD OF 'surdlaw06.RootCompares'. -/
def rootComparesUptoCard : Claim7 := { stood := { row := rootComparesUptoRow, standIns := [], harness := (true, "a65f7c5e53ecbf946c639cc63ba055ad5258268b8e3c19744454330eeb661fa8"), looks := true }, kinds := [], alts := [], laidByText := true, laidKinds := [.data, .data, .data, .data, .sentinel, .sentinel, .pinned], laidTests := true, laidLooks := .later }
def RootComparesUptoCardSaid : Prop := Claim7.holds Tryz.pinned (.plain (OpenSpec.upto rootComparesSpec)) rootComparesUptoCard

/-- THE SECOND FORM's CARD OF 'surdlaw06.RootLaws'. -/
def rootLawsUptoCard : Claim7 := { stood := { row := rootLawsUptoRow, standIns := [], harness := (true, "a65f7c5e53ecbf946c639cc63ba055ad5258268b8e3c19744454330eeb661fa8"), looks := true }, kinds := [], alts := [], laidByText := true, laidKinds := [.data, .data, .data, .data, .sentinel, .sentinel, .pinned], laidTests := true, laidLooks := .later }
def RootLawsUptoCardSaid : Prop := Claim7.holds Tryz.pinned (.plain (OpenSpec.upto rootLawsSpec)) rootLawsUptoCard

/-- THE SECOND FORM's CARD OF 'surdlaw06.RootMade'. -/
def rootMadeUptoCard : Claim7 := { stood := { row := rootMadeUptoRow, standIns := [], harness := (true, "a65f7c5e53ecbf946c639cc63ba055ad5258268b8e3c19744454330eeb661fa8"), looks := true }, kinds := [], alts := [], laidByText := true, laidKinds := [.data, .data, .data, .data, .sentinel, .sentinel, .pinned], laidTests := true, laidLooks := .later }
def RootMadeUptoCardSaid : Prop := Claim7.holds Tryz.pinned (.plain (OpenSpec.upto rootMadeSpec)) rootMadeUptoCard

/-- THE SECOND FORM's CARD OF 'surdlaw06.RootDigits'. -/
def rootDigitsUptoCard : Claim7 := { stood := { row := rootDigitsUptoRow, standIns := [], harness := (true, "a65f7c5e53ecbf946c639cc63ba055ad5258268b8e3c19744454330eeb661fa8"), looks := true }, kinds := [], alts := [], laidByText := true, laidKinds := [.data, .data, .data, .data, .sentinel, .sentinel, .pinned], laidTests := true, laidLooks := .later }
def RootDigitsUptoCardSaid : Prop := Claim7.holds Tryz.pinned (.plain (OpenSpec.upto rootDigitsSpec)) rootDigitsUptoCard
end Rows
end Go.Proofs.YtdmmbgahnkbnaaaGreatDoor
