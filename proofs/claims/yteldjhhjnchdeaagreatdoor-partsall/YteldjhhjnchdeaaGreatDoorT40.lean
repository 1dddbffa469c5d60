import Derived.Test.YteldjhhjnchdeaaGreatDoorT39
import Derived.Test.YteldjhhjnchdeaaGreatDoorCards
import Derived.Test.YteldjhhjnchdeaaGreatDoorTie
set_option linter.all false
set_option maxRecDepth 99999
set_option maxHeartbeats 0
namespace Go.Proofs.YteldjhhjnchdeaaGreatDoor
open Go
theorem partsAll_card:Rows.PartsAllCardSaid:=
 Claim7.holds_tied_plain_at .later [] [.data,.data,.data,.data,.sentinel,.sentinel,.pinned] true Rows.partsAllCard.stood.harness true
  kP (λ_ h=>by cases h) kS (λ_ h=>by cases h) partsAll_row_tie J ⟨J,J⟩ kS J
  (λf fn c d=>by
   obtain rfl:f=5:=Cf ((show Tryz.prog.funcNamed "surd/surdlaw04.PartsAll"=some 5 by kernel_rfl).symm.trans c) |>.symm
   obtain rfl:fn=Tryz.f5:=(Cf (Tryz.func5.symm.trans d)).symm;exact⟨kS,λj t a=>by
    rw[Tryz.params5]at a;have e:t∈[9,9,9]:=by simpa using Array.mem_of_getElem? a
    have b:([9,9,9].all λu=>!Tryz.prog.wantsStandIn u)=true:=by kernel_rfl
    exact(show Tryz.prog.wantsStandIn t=false by simpa using AG.1 b t e)⟩)
  kS
end Go.Proofs.YteldjhhjnchdeaaGreatDoor
