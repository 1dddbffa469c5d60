import Derived.Test.YteldjhhjnchdeaaGreatDoorK49
import Derived.Test.YteldjhhjnchdeaaGreatDoorCards
import Derived.Test.YteldjhhjnchdeaaGreatDoorTie
import Derived.SevenTiedAt
namespace Go.Proofs.YteldjhhjnchdeaaGreatDoor
open Go

theorem partsGCDs_card : Rows.PartsGCDsCardSaid :=
  Claim7.holds_tied_plain_at .later [] [.data, .data, .data, .data, .sentinel, .sentinel, .pinned] true Rows.partsGCDsCard.stood.harness true
    partsGCDs_holds (fun _ h => by cases h) (by kernel_rfl) (fun _ h => by cases h) partsGCDs_row_tie rfl ⟨rfl, rfl⟩ (by kernel_rfl) rfl
    (fun f fn hf hfn => by
      obtain rfl : f = 3 := Option.some.inj ((show Tryz.prog.funcNamed "surd/surdlaw04.PartsGCDs" = some 3 by kernel_rfl).symm.trans hf) |>.symm
      obtain rfl : fn = Tryz.f3 := (Option.some.inj (Tryz.func3.symm.trans hfn)).symm
      exact ⟨by kernel_rfl, fun j t ht => by
        rw [Tryz.params3] at ht
        have hm : t ∈ [9, 9, 9] := by simpa using Array.mem_of_getElem? ht
        have hall : ([9, 9, 9].all fun u => !Tryz.prog.wantsStandIn u) = true := by kernel_rfl
        exact (show Tryz.prog.wantsStandIn t = false by simpa using List.all_eq_true.1 hall t hm)⟩)
    (by kernel_rfl)
end Go.Proofs.YteldjhhjnchdeaaGreatDoor
