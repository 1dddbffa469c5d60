import Derived.Test.YteldjhhjnchdeaaGreatDoorU49
import Derived.Test.YteldjhhjnchdeaaGreatDoorCards
import Derived.Test.YteldjhhjnchdeaaGreatDoorTie
import Derived.SevenTiedAt
set_option maxRecDepth 100000
set_option maxHeartbeats 16000000
namespace Go.Proofs.YteldjhhjnchdeaaGreatDoor
open Go
theorem partsFrees_card:Rows.PartsFreesCardSaid:=
 Claim7.holds_tied_plain_at .later [] [.data,.data,.data,.data,.sentinel,.sentinel,.pinned] true Rows.partsFreesCard.stood.harness true
  gs (λ_ h=>by cases h) (by kernel_rfl) (λ_ h=>by cases h) partsFrees_row_tie rfl ⟨rfl,rfl⟩ (by kernel_rfl) rfl
  (λf fn c d=>by
   obtain rfl:f=4:=Cg ((show Tryz.prog.funcNamed "surd/surdlaw04.PartsFrees"=some 4 by kernel_rfl).symm.trans c) |>.symm
   obtain rfl:fn=Tryz.f4:=(Cg (Tryz.func4.symm.trans d)).symm;exact⟨by kernel_rfl,λj t a=>by
    rw[Tryz.params4]at a;have e:t∈[9,9]:=by simpa using Array.mem_of_getElem? a
    have b:([9,9].all λu=>!Tryz.prog.wantsStandIn u)=true:=by kernel_rfl
    exact(show Tryz.prog.wantsStandIn t=false by simpa using A4.1 b t e)⟩)
  (by kernel_rfl)
end Go.Proofs.YteldjhhjnchdeaaGreatDoor
