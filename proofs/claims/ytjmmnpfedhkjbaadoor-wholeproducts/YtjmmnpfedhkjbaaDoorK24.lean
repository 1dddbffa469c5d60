import Derived.Test.YtjmmnpfedhkjbaaDoorK23
import Derived.Test.YtjmmnpfedhkjbaaDoorCards
import Derived.Test.YtjmmnpfedhkjbaaDoorTie
import Derived.SevenTiedAt
namespace Go.Proofs.YtjmmnpfedhkjbaaDoor
open Go

theorem wholeProducts_card : Rows.WholeProductsCardSaid :=
  Claim7.holds_tied_plain_at .later [] [.data, .data, .data, .sentinel, .sentinel] true Rows.wholeProductsCard.stood.harness true
    wholeProducts_holds (fun _ h => by cases h) (by kernel_rfl) (fun _ h => by cases h) wholeProducts_row_tie rfl ⟨rfl, rfl⟩ (by kernel_rfl) rfl
    (fun f fn hf hfn => by
      obtain rfl : f = 5 := Option.some.inj ((show Tryd.prog.funcNamed "surd/surdlaw01.WholeProducts" = some 5 by kernel_rfl).symm.trans hf) |>.symm
      obtain rfl : fn = Tryd.f5 := (Option.some.inj (Tryd.func5.symm.trans hfn)).symm
      exact ⟨by kernel_rfl, fun j t ht => by
        rw [Tryd.params5] at ht
        have hm : t ∈ [9, 9, 3] := by simpa using Array.mem_of_getElem? ht
        have hall : ([9, 9, 3].all fun u => !Tryd.prog.wantsStandIn u) = true := by kernel_rfl
        exact (show Tryd.prog.wantsStandIn t = false by simpa using List.all_eq_true.1 hall t hm)⟩)
    (by kernel_rfl)
end Go.Proofs.YtjmmnpfedhkjbaaDoor
