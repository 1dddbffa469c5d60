/-
  DERIVED. GIVEN WITH THE SEED: THE CARDS: each row of YtakpoihdghihmaaGreatDoorRows.lean that lists a variable, with what it lists TIED to the program's text (the seventh form; the later family's looks); each row that meets fmt, with fmt's text TOLD by the authors' own Lean function (tested against real Go, not proved from fmt's source: count such statements apart). THE CARD IS WHAT COUNTS. Prove the row's statement (the work); the ties are given (YtakpoihdghihmaaGreatDoorTie.lean); close each card by the builder's one call (the guide's Derived/Test/ToyasCard.lean, 'card_holds'). Laid BY PROGRAM, IN A SANDBOX (cutbox-door.mjs). By AI agents, Wed Nov 11 2026. No macro, syntax, notation, axiom, sorry.
-/
import Derived.Test.YtakpoihdghihmaaGreatDoorRows
import GoSem.ClaimSeven
namespace Go.Proofs.YtakpoihdghihmaaGreatDoor
namespace Rows

/-- THE TIED CARD OF 'surdlaw05.SturmCounts'. -/
def sturmCountsCard : Claim7 := { stood := { row := sturmCountsRow, standIns := [], harness := (true, "cbf0c92d2f857cf23239f312937992141a1879d9495b9994aa709132c86f609d"), looks := true }, kinds := [], alts := [], laidByText := true, laidKinds := [.data, .data, .data, .data, .sentinel, .sentinel, .pinned], laidTests := true, laidLooks := .later }
def SturmCountsCardSaid : Prop := Claim7.holds Tryz.pinned (.plain (OpenSpec.ofChange sturmCountsSpec)) sturmCountsCard

/-- THE TIED CARD OF 'surdlaw05.SturmMade'. -/
def sturmMadeCard : Claim7 := { stood := { row := sturmMadeRow, standIns := [], harness := (true, "cbf0c92d2f857cf23239f312937992141a1879d9495b9994aa709132c86f609d"), looks := true }, kinds := [], alts := [], laidByText := true, laidKinds := [.data, .data, .data, .data, .sentinel, .sentinel, .pinned], laidTests := true, laidLooks := .later }
def SturmMadeCardSaid : Prop := Claim7.holds Tryz.pinned (.plain (OpenSpec.ofChange sturmMadeSpec)) sturmMadeCard

/-- THE TIED CARD OF 'surdlaw05.SturmLaws'. -/
def sturmLawsCard : Claim7 := { stood := { row := sturmLawsRow, standIns := [], harness := (true, "cbf0c92d2f857cf23239f312937992141a1879d9495b9994aa709132c86f609d"), looks := true }, kinds := [], alts := [], laidByText := true, laidKinds := [.data, .data, .data, .data, .sentinel, .sentinel, .pinned], laidTests := true, laidLooks := .later }
def SturmLawsCardSaid : Prop := Claim7.holds Tryz.pinned (.plain (OpenSpec.ofChange sturmLawsSpec)) sturmLawsCard

/-- THE TIED CARD OF 'surdlaw05.SturmProduct'. -/
def sturmProductCard : Claim7 := { stood := { row := sturmProductRow, standIns := [], harness := (true, "cbf0c92d2f857cf23239f312937992141a1879d9495b9994aa709132c86f609d"), looks := true }, kinds := [], alts := [], laidByText := true, laidKinds := [.data, .data, .data, .data, .sentinel, .sentinel, .pinned], laidTests := true, laidLooks := .later }
def SturmProductCardSaid : Prop := Claim7.holds Tryz.pinned (.plain (OpenSpec.ofChange sturmProductSpec)) sturmProductCard

/-- THE TIED CARD OF 'surdlaw05.SturmRules'. -/
def sturmRulesCard : Claim7 := { stood := { row := sturmRulesRow, standIns := [], harness := (true, "cbf0c92d2f857cf23239f312937992141a1879d9495b9994aa709132c86f609d"), looks := true }, kinds := [], alts := [], laidByText := true, laidKinds := [.data, .data, .data, .data, .sentinel, .sentinel, .pinned], laidTests := true, laidLooks := .later }
def SturmRulesCardSaid : Prop := Claim7.holds Tryz.pinned (.plain (OpenSpec.ofChange sturmRulesSpec)) sturmRulesCard

/-- THE SECOND FORM's CARD OF 'surdlaw05.SturmCounts'. -/
def sturmCountsUptoCard : Claim7 := { stood := { row := sturmCountsUptoRow, standIns := [], harness := (true, "cbf0c92d2f857cf23239f312937992141a1879d9495b9994aa709132c86f609d"), looks := true }, kinds := [], alts := [], laidByText := true, laidKinds := [.data, .data, .data, .data, .sentinel, .sentinel, .pinned], laidTests := true, laidLooks := .later }
def SturmCountsUptoCardSaid : Prop := Claim7.holds Tryz.pinned (.plain (OpenSpec.upto sturmCountsSpec)) sturmCountsUptoCard

/-- THE SECOND FORM's CARD OF 'surdlaw05.SturmMade'. -/
def sturmMadeUptoCard : Claim7 := { stood := { row := sturmMadeUptoRow, standIns := [], harness := (true, "cbf0c92d2f857cf23239f312937992141a1879d9495b9994aa709132c86f609d"), looks := true }, kinds := [], alts := [], laidByText := true, laidKinds := [.data, .data, .data, .data, .sentinel, .sentinel, .pinned], laidTests := true, laidLooks := .later }
def SturmMadeUptoCardSaid : Prop := Claim7.holds Tryz.pinned (.plain (OpenSpec.upto sturmMadeSpec)) sturmMadeUptoCard

/-- THE SECOND FORM's CARD OF 'surdlaw05.SturmLaws'. -/
def sturmLawsUptoCard : Claim7 := { stood := { row := sturmLawsUptoRow, standIns := [], harness := (true, "cbf0c92d2f857cf23239f312937992141a1879d9495b9994aa709132c86f609d"), looks := true }, kinds := [], alts := [], laidByText := true, laidKinds := [.data, .data, .data, .data, .sentinel, .sentinel, .pinned], laidTests := true, laidLooks := .later }
def SturmLawsUptoCardSaid : Prop := Claim7.holds Tryz.pinned (.plain (OpenSpec.upto sturmLawsSpec)) sturmLawsUptoCard

/-- THE SECOND FORM's CARD OF 'surdlaw05.SturmProduct'. -/
def sturmProductUptoCard : Claim7 := { stood := { row := sturmProductUptoRow, standIns := [], harness := (true, "cbf0c92d2f857cf23239f312937992141a1879d9495b9994aa709132c86f609d"), looks := true }, kinds := [], alts := [], laidByText := true, laidKinds := [.data, .data, .data, .data, .sentinel, .sentinel, .pinned], laidTests := true, laidLooks := .later }
def SturmProductUptoCardSaid : Prop := Claim7.holds Tryz.pinned (.plain (OpenSpec.upto sturmProductSpec)) sturmProductUptoCard

/-- THE SECOND FORM's CARD OF 'surdlaw05.SturmRules'. -/
def sturmRulesUptoCard : Claim7 := { stood := { row := sturmRulesUptoRow, standIns := [], harness := (true, "cbf0c92d2f857cf23239f312937992141a1879d9495b9994aa709132c86f609d"), looks := true }, kinds := [], alts := [], laidByText := true, laidKinds := [.data, .data, .data, .data, .sentinel, .sentinel, .pinned], laidTests := true, laidLooks := .later }
def SturmRulesUptoCardSaid : Prop := Claim7.holds Tryz.pinned (.plain (OpenSpec.upto sturmRulesSpec)) sturmRulesUptoCard
end Rows
end Go.Proofs.YtakpoihdghihmaaGreatDoor
