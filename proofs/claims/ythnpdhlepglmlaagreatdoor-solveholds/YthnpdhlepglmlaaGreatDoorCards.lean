/-
  DERIVED. GIVEN WITH THE SEED: THE CARDS: each row of YthnpdhlepglmlaaGreatDoorRows.lean that lists a variable, with what it lists TIED to the program's text (the seventh form; the later family's looks); each row that meets fmt, with fmt's text TOLD by the authors' own Lean function (tested against real Go, not proved from fmt's source: count such statements apart). THE CARD IS WHAT COUNTS. Prove the row's statement (the work); the ties are given (YthnpdhlepglmlaaGreatDoorTie.lean); close each card by the builder's one call (the guide's Derived/Test/ToyasCard.lean, 'card_holds'). Laid BY PROGRAM, IN A SANDBOX (cutbox-door.mjs). By AI agents, Wed Nov 11 2026. No macro, syntax, notation, axiom, sorry.
-/
import Derived.Test.YthnpdhlepglmlaaGreatDoorRows
import GoSem.ClaimSeven
namespace Go.Proofs.YthnpdhlepglmlaaGreatDoor
namespace Rows

/-- THE TIED CARD OF 'surdlaw07.SolveAll'. -/
def solveAllCard : Claim7 := { stood := { row := solveAllRow, standIns := [], harness := (true, "a9816feedcd725135c6a1ef6f29c09147004f8bdbdeb18fbbd71488e1a2a4626"), looks := true }, kinds := [], alts := [], laidByText := true, laidKinds := [.data, .data, .data, .data, .sentinel, .sentinel, .pinned], laidTests := true, laidLooks := .later }
def SolveAllCardSaid : Prop := Claim7.holds Tryz.pinned (.plain (OpenSpec.ofChange solveAllSpec)) solveAllCard

/-- THE TIED CARD OF 'surdlaw07.SolveSame'. -/
def solveSameCard : Claim7 := { stood := { row := solveSameRow, standIns := [], harness := (true, "a9816feedcd725135c6a1ef6f29c09147004f8bdbdeb18fbbd71488e1a2a4626"), looks := true }, kinds := [], alts := [], laidByText := true, laidKinds := [.data, .data, .data, .data, .sentinel, .sentinel, .pinned], laidTests := true, laidLooks := .later }
def SolveSameCardSaid : Prop := Claim7.holds Tryz.pinned (.plain (OpenSpec.ofChange solveSameSpec)) solveSameCard

/-- THE TIED CARD OF 'surdlaw07.SolveHolds'. -/
def solveHoldsCard : Claim7 := { stood := { row := solveHoldsRow, standIns := [], harness := (true, "a9816feedcd725135c6a1ef6f29c09147004f8bdbdeb18fbbd71488e1a2a4626"), looks := true }, kinds := [], alts := [], laidByText := true, laidKinds := [.data, .data, .data, .data, .sentinel, .sentinel, .pinned], laidTests := true, laidLooks := .later }
def SolveHoldsCardSaid : Prop := Claim7.holds Tryz.pinned (.plain (OpenSpec.ofChange solveHoldsSpec)) solveHoldsCard

/-- THE SECOND FORM's CARD OF 'surdlaw07.SolveAll'. -/
def solveAllUptoCard : Claim7 := { stood := { row := solveAllUptoRow, standIns := [], harness := (true, "a9816feedcd725135c6a1ef6f29c09147004f8bdbdeb18fbbd71488e1a2a4626"), looks := true }, kinds := [], alts := [], laidByText := true, laidKinds := [.data, .data, .data, .data, .sentinel, .sentinel, .pinned], laidTests := true, laidLooks := .later }
def SolveAllUptoCardSaid : Prop := Claim7.holds Tryz.pinned (.plain (OpenSpec.upto solveAllSpec)) solveAllUptoCard

/-- THE SECOND FORM's CARD OF 'surdlaw07.SolveSame'. -/
def solveSameUptoCard : Claim7 := { stood := { row := solveSameUptoRow, standIns := [], harness := (true, "a9816feedcd725135c6a1ef6f29c09147004f8bdbdeb18fbbd71488e1a2a4626"), looks := true }, kinds := [], alts := [], laidByText := true, laidKinds := [.data, .data, .data, .data, .sentinel, .sentinel, .pinned], laidTests := true, laidLooks := .later }
def SolveSameUptoCardSaid : Prop := Claim7.holds Tryz.pinned (.plain (OpenSpec.upto solveSameSpec)) solveSameUptoCard

/-- THE SECOND FORM's CARD OF 'surdlaw07.SolveHolds'. -/
def solveHoldsUptoCard : Claim7 := { stood := { row := solveHoldsUptoRow, standIns := [], harness := (true, "a9816feedcd725135c6a1ef6f29c09147004f8bdbdeb18fbbd71488e1a2a4626"), looks := true }, kinds := [], alts := [], laidByText := true, laidKinds := [.data, .data, .data, .data, .sentinel, .sentinel, .pinned], laidTests := true, laidLooks := .later }
def SolveHoldsUptoCardSaid : Prop := Claim7.holds Tryz.pinned (.plain (OpenSpec.upto solveHoldsSpec)) solveHoldsUptoCard
end Rows
end Go.Proofs.YthnpdhlepglmlaaGreatDoor
