import Derived.Test.YtjmmnpfedhkjbaaGreatDoorK29
import Derived.Test.YtjmmnpfedhkjbaaGreatDoorCards
import Derived.Test.YtjmmnpfedhkjbaaGreatDoorTie
import Derived.SevenTiedAt
namespace Go.Proofs.YtjmmnpfedhkjbaaGreatDoor
open Go

theorem wholeLaws_card : Rows.WholeLawsCardSaid :=
  Claim7.holds_tied_plain_at .later [] [.data, .data, .data, .sentinel, .sentinel] true Rows.wholeLawsCard.stood.harness true
    wholeLaws_holds (fun _ h => by cases h) (by kernel_rfl) (fun _ h => by cases h) wholeLaws_row_tie rfl ⟨rfl, rfl⟩ (by kernel_rfl) rfl
    (fun f fn hf hfn => by
      obtain rfl : f = 4 := Option.some.inj ((show Tryz.prog.funcNamed "surd/surdlaw01.WholeLaws" = some 4 by kernel_rfl).symm.trans hf) |>.symm
      obtain rfl : fn = Tryz.f4 := (Option.some.inj (Tryz.func4.symm.trans hfn)).symm
      exact ⟨by kernel_rfl, fun j t ht => by
        rw [Tryz.params4] at ht
        have hm : t ∈ [9, 9, 9] := by simpa using Array.mem_of_getElem? ht
        have hall : ([9, 9, 9].all fun u => !Tryz.prog.wantsStandIn u) = true := by kernel_rfl
        exact (show Tryz.prog.wantsStandIn t = false by simpa using List.all_eq_true.1 hall t hm)⟩)
    (by kernel_rfl)
end Go.Proofs.YtjmmnpfedhkjbaaGreatDoor
