import Derived.Test.YtjmmnpfedhkjbaaGreatDoorK28
import Derived.Test.YtjmmnpfedhkjbaaGreatDoorCards
import Derived.Test.YtjmmnpfedhkjbaaGreatDoorTie
import Derived.SevenTiedAt
namespace Go.Proofs.YtjmmnpfedhkjbaaGreatDoor
open Go

theorem wholeSplits_card : Rows.WholeSplitsCardSaid :=
  Claim7.holds_tied_plain_at .later [] [.data, .data, .data, .sentinel, .sentinel] true Rows.wholeSplitsCard.stood.harness true
    wholeSplits_holds (fun _ h => by cases h) (by kernel_rfl) (fun _ h => by cases h) wholeSplits_row_tie rfl ⟨rfl, rfl⟩ (by kernel_rfl) rfl
    (fun f fn hf hfn => by
      obtain rfl : f = 3 := Option.some.inj ((show Tryz.prog.funcNamed "surd/surdlaw01.WholeSplits" = some 3 by kernel_rfl).symm.trans hf) |>.symm
      obtain rfl : fn = Tryz.f3 := (Option.some.inj (Tryz.func3.symm.trans hfn)).symm
      exact ⟨by kernel_rfl, fun j t ht => by
        rw [Tryz.params3] at ht
        have hm : t ∈ [9, 9] := by simpa using Array.mem_of_getElem? ht
        have hall : ([9, 9].all fun u => !Tryz.prog.wantsStandIn u) = true := by kernel_rfl
        exact (show Tryz.prog.wantsStandIn t = false by simpa using List.all_eq_true.1 hall t hm)⟩)
    (by kernel_rfl)
end Go.Proofs.YtjmmnpfedhkjbaaGreatDoor
