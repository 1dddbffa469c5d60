/-
  DERIVED. GIVEN WITH THE SEED: THE CARDS: each row of YtcahejkcdcjjgaaGreatDoorRows.lean that lists a variable, with what it lists TIED to the program's text (the seventh form; the later family's looks); each row that meets fmt, with fmt's text TOLD by the authors' own Lean function (tested against real Go, not proved from fmt's source: count such statements apart). THE CARD IS WHAT COUNTS. Prove the row's statement (the work); the ties are given (YtcahejkcdcjjgaaGreatDoorTie.lean); close each card by the builder's one call (the guide's Derived/Test/ToyasCard.lean, 'card_holds'). Laid BY PROGRAM, IN A SANDBOX (cutbox-door.mjs). By AI agents, Wed Nov 11 2026. No macro, syntax, notation, axiom, sorry.
-/
import Derived.Test.YtcahejkcdcjjgaaGreatDoorRows
import GoSem.ClaimSeven
namespace Go.Proofs.YtcahejkcdcjjgaaGreatDoor
namespace Rows

/-- THE TIED CARD OF 'surdlaw03.PolyParses'. -/
def polyParsesCard : Claim7 := { stood := { row := polyParsesRow, standIns := [], harness := (true, "9a5ab2ac78db383aae451ecd7bd843576590d63a222d617e816099a5a7343bc4"), looks := true }, kinds := [], alts := [], laidByText := true, laidKinds := [.data, .data, .data, .data, .sentinel, .sentinel, .pinned], laidTests := true, laidLooks := .later }
def PolyParsesCardSaid : Prop := Claim7.holds Tryz.pinned (.plain (OpenSpec.ofChange polyParsesSpec)) polyParsesCard

/-- THE TIED CARD OF 'surdlaw03.PolyOf'. -/
def polyOfCard : Claim7 := { stood := { row := polyOfRow, standIns := [], harness := (true, "9a5ab2ac78db383aae451ecd7bd843576590d63a222d617e816099a5a7343bc4"), looks := true }, kinds := [], alts := [], laidByText := true, laidKinds := [.data, .data, .data, .data, .sentinel, .sentinel, .pinned], laidTests := true, laidLooks := .later }
def PolyOfCardSaid : Prop := Claim7.holds Tryz.pinned (.plain (OpenSpec.ofChange polyOfSpec)) polyOfCard

/-- THE TIED CARD OF 'surdlaw03.PolyWorks'. -/
def polyWorksCard : Claim7 := { stood := { row := polyWorksRow, standIns := [], harness := (true, "9a5ab2ac78db383aae451ecd7bd843576590d63a222d617e816099a5a7343bc4"), looks := true }, kinds := [], alts := [], laidByText := true, laidKinds := [.data, .data, .data, .data, .sentinel, .sentinel, .pinned], laidTests := true, laidLooks := .later }
def PolyWorksCardSaid : Prop := Claim7.holds Tryz.pinned (.plain (OpenSpec.ofChange polyWorksSpec)) polyWorksCard

/-- THE TIED CARD OF 'surdlaw03.PolyAt'. -/
def polyAtCard : Claim7 := { stood := { row := polyAtRow, standIns := [], harness := (true, "9a5ab2ac78db383aae451ecd7bd843576590d63a222d617e816099a5a7343bc4"), looks := true }, kinds := [], alts := [], laidByText := true, laidKinds := [.data, .data, .data, .data, .sentinel, .sentinel, .pinned], laidTests := true, laidLooks := .later }
def PolyAtCardSaid : Prop := Claim7.holds Tryz.pinned (.plain (OpenSpec.ofChange polyAtSpec)) polyAtCard

/-- THE TIED CARD OF 'surdlaw03.PolyLaws'. -/
def polyLawsCard : Claim7 := { stood := { row := polyLawsRow, standIns := [], harness := (true, "9a5ab2ac78db383aae451ecd7bd843576590d63a222d617e816099a5a7343bc4"), looks := true }, kinds := [], alts := [], laidByText := true, laidKinds := [.data, .data, .data, .data, .sentinel, .sentinel, .pinned], laidTests := true, laidLooks := .later }
def PolyLawsCardSaid : Prop := Claim7.holds Tryz.pinned (.plain (OpenSpec.ofChange polyLawsSpec)) polyLawsCard

/-- THE TIED CARD OF 'surdlaw03.PolyBack'. -/
def polyBackCard : Claim7 := { stood := { row := polyBackRow, standIns := [], harness := (true, "9a5ab2ac78db383aae451ecd7bd843576590d63a222d617e816099a5a7343bc4"), looks := true }, kinds := [], alts := [], laidByText := true, laidKinds := [.data, .data, .data, .data, .sentinel, .sentinel, .pinned], laidTests := true, laidLooks := .later }
def PolyBackCardSaid : Prop := Claim7.holds Tryz.pinned (.plain (OpenSpec.ofChange polyBackSpec)) polyBackCard

/-- THE SECOND FORM's CARD OF 'surdlaw03.PolyParses'. -/
def polyParsesUptoCard : Claim7 := { stood := { row := polyParsesUptoRow, standIns := [], harness := (true, "9a5ab2ac78db383aae451ecd7bd843576590d63a222d617e816099a5a7343bc4"), looks := true }, kinds := [], alts := [], laidByText := true, laidKinds := [.data, .data, .data, .data, .sentinel, .sentinel, .pinned], laidTests := true, laidLooks := .later }
def PolyParsesUptoCardSaid : Prop := Claim7.holds Tryz.pinned (.plain (OpenSpec.upto polyParsesSpec)) polyParsesUptoCard

/-- THE SECOND FORM's CARD OF 'surdlaw03.PolyOf'. -/
def polyOfUptoCard : Claim7 := { stood := { row := polyOfUptoRow, standIns := [], harness := (true, "9a5ab2ac78db383aae451ecd7bd843576590d63a222d617e816099a5a7343bc4"), looks := true }, kinds := [], alts := [], laidByText := true, laidKinds := [.data, .data, .data, .data, .sentinel, .sentinel, .pinned], laidTests := true, laidLooks := .later }
def PolyOfUptoCardSaid : Prop := Claim7.holds Tryz.pinned (.plain (OpenSpec.upto polyOfSpec)) polyOfUptoCard

/-- THE SECOND FORM's CARD OF 'surdlaw03.PolyWorks'. -/
def polyWorksUptoCard : Claim7 := { stood := { row := polyWorksUptoRow, standIns := [], harness := (true, "9a5ab2ac78db383aae451ecd7bd843576590d63a222d617e816099a5a7343bc4"), looks := true }, kinds := [], alts := [], laidByText := true, laidKinds := [.data, .data, .data, .data, .sentinel, .sentinel, .pinned], laidTests := true, laidLooks := .later }
def PolyWorksUptoCardSaid : Prop := Claim7.holds Tryz.pinned (.plain (OpenSpec.upto polyWorksSpec)) polyWorksUptoCard

/-- THE SECOND FORM's CARD OF 'surdlaw03.PolyAt'. -/
def polyAtUptoCard : Claim7 := { stood := { row := polyAtUptoRow, standIns := [], harness := (true, "9a5ab2ac78db383aae451ecd7bd843576590d63a222d617e816099a5a7343bc4"), looks := true }, kinds := [], alts := [], laidByText := true, laidKinds := [.data, .data, .data, .data, .sentinel, .sentinel, .pinned], laidTests := true, laidLooks := .later }
def PolyAtUptoCardSaid : Prop := Claim7.holds Tryz.pinned (.plain (OpenSpec.upto polyAtSpec)) polyAtUptoCard

/-- THE SECOND FORM's CARD OF 'surdlaw03.PolyLaws'. -/
def polyLawsUptoCard : Claim7 := { stood := { row := polyLawsUptoRow, standIns := [], harness := (true, "9a5ab2ac78db383aae451ecd7bd843576590d63a222d617e816099a5a7343bc4"), looks := true }, kinds := [], alts := [], laidByText := true, laidKinds := [.data, .data, .data, .data, .sentinel, .sentinel, .pinned], laidTests := true, laidLooks := .later }
def PolyLawsUptoCardSaid : Prop := Claim7.holds Tryz.pinned (.plain (OpenSpec.upto polyLawsSpec)) polyLawsUptoCard

/-- THE SECOND FORM's CARD OF 'surdlaw03.PolyBack'. -/
def polyBackUptoCard : Claim7 := { stood := { row := polyBackUptoRow, standIns := [], harness := (true, "9a5ab2ac78db383aae451ecd7bd843576590d63a222d617e816099a5a7343bc4"), looks := true }, kinds := [], alts := [], laidByText := true, laidKinds := [.data, .data, .data, .data, .sentinel, .sentinel, .pinned], laidTests := true, laidLooks := .later }
def PolyBackUptoCardSaid : Prop := Claim7.holds Tryz.pinned (.plain (OpenSpec.upto polyBackSpec)) polyBackUptoCard
end Rows
end Go.Proofs.YtcahejkcdcjjgaaGreatDoor
