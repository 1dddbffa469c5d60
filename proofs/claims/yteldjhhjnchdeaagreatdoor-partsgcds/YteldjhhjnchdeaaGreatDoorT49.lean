import Derived.Test.YteldjhhjnchdeaaGreatDoorT48
import Derived.Test.YteldjhhjnchdeaaGreatDoorCards
import Derived.Test.YteldjhhjnchdeaaGreatDoorTie
import Derived.SevenTiedAt
set_option maxRecDepth 100000
set_option maxHeartbeats 16000000
namespace Go.Proofs.YteldjhhjnchdeaaGreatDoor
open Go
theorem partsGCDs_card:Rows.PartsGCDsCardSaid:=
 Claim7.holds_tied_plain_at .later [] [.data,.data,.data,.data,.sentinel,.sentinel,.pinned] true Rows.partsGCDsCard.stood.harness true
  iB (λ_ h=>by cases h) (by kernel_rfl) (λ_ h=>by cases h) partsGCDs_row_tie rfl ⟨rfl,rfl⟩ (by kernel_rfl) rfl
  (λf fn c d=>by
   obtain rfl:f=3:=Cg ((show Tryz.prog.funcNamed "surd/surdlaw04.PartsGCDs"=some 3 by kernel_rfl).symm.trans c) |>.symm
   obtain rfl:fn=Tryz.f3:=(Cg (Tryz.func3.symm.trans d)).symm;exact⟨by kernel_rfl,λj t a=>by
    rw[Tryz.params3]at a;have e:t∈[9,9,9]:=by simpa using Array.mem_of_getElem? a
    have b:([9,9,9].all λu=>!Tryz.prog.wantsStandIn u)=true:=by kernel_rfl
    exact(show Tryz.prog.wantsStandIn t=false by simpa using A4.1 b t e)⟩)
  (by kernel_rfl)
end Go.Proofs.YteldjhhjnchdeaaGreatDoor
