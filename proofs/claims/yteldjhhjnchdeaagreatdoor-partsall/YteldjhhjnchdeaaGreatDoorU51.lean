import Derived.Test.YteldjhhjnchdeaaGreatDoorU50
import Derived.Test.YteldjhhjnchdeaaGreatDoorCards
import Derived.Test.YteldjhhjnchdeaaGreatDoorTie
import Derived.SevenTiedAt
set_option maxRecDepth 100000
set_option maxHeartbeats 16000000
namespace Go.Proofs.YteldjhhjnchdeaaGreatDoor
open Go
theorem partsAll_card:Rows.PartsAllCardSaid:=
 Claim7.holds_tied_plain_at .later [] [.data,.data,.data,.data,.sentinel,.sentinel,.pinned] true Rows.partsAllCard.stood.harness true
  kG (λ_ h=>by cases h) (by kernel_rfl) (λ_ h=>by cases h) partsAll_row_tie rfl ⟨rfl,rfl⟩ (by kernel_rfl) rfl
  (λf fn c d=>by
   obtain rfl:f=5:=Cm ((show Tryz.prog.funcNamed "surd/surdlaw04.PartsAll"=some 5 by kernel_rfl).symm.trans c) |>.symm
   obtain rfl:fn=Tryz.f5:=(Cm (Tryz.func5.symm.trans d)).symm;exact⟨by kernel_rfl,λj t a=>by
    rw[Tryz.params5]at a;have e:t∈[9,9,9]:=by simpa using Array.mem_of_getElem? a
    have b:([9,9,9].all λu=>!Tryz.prog.wantsStandIn u)=true:=by kernel_rfl
    exact(show Tryz.prog.wantsStandIn t=false by simpa using A7.1 b t e)⟩)
  (by kernel_rfl)
end Go.Proofs.YteldjhhjnchdeaaGreatDoor
