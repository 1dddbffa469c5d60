import Derived.Test.YtcahodpphikgnaaGreatDoorV34
import Derived.Test.YtcahodpphikgnaaGreatDoorCards
import Derived.Test.YtcahodpphikgnaaGreatDoorTie
set_option linter.all false
set_option maxRecDepth 99999
set_option maxHeartbeats 0
namespace Go.Proofs.YtcahodpphikgnaaGreatDoor
open Go
theorem ratioWorks_card:Rows.RatioWorksCardSaid:=
 Claim7.holds_tied_plain_at .later [] [.data,.data,.data,.sentinel,.sentinel] true Rows.ratioWorksCard.stood.harness true
  N7 (λ_ h=>by cases h) N9 (λ_ h=>by cases h) ratioWorks_row_tie J ⟨J,J⟩ N9 J
  (λf fn c d=>by
   obtain rfl:f=5:=Cv ((show Tryz.prog.funcNamed "surd/surdlaw02.RatioWorks"=some 5 by kernel_rfl).symm.trans c) |>.symm
   obtain rfl:fn=Tryz.f5:=(Cv (Tryz.func5.symm.trans d)).symm;exact⟨N9,λj t a=>by
    rw[Tryz.params5]at a;have e:t∈[9,9]:=by simpa using Array.mem_of_getElem? a
    have b:([9,9].all λu=>!Tryz.prog.wantsStandIn u)=true:=by kernel_rfl
    exact(show Tryz.prog.wantsStandIn t=false by simpa using AX.1 b t e)⟩)
  N9
end Go.Proofs.YtcahodpphikgnaaGreatDoor
