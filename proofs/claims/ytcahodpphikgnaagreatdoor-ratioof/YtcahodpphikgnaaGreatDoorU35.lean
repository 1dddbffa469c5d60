import Derived.Test.YtcahodpphikgnaaGreatDoorU34
import Derived.Test.YtcahodpphikgnaaGreatDoorCards
import Derived.Test.YtcahodpphikgnaaGreatDoorTie
set_option linter.all false
set_option maxRecDepth 99999
set_option maxHeartbeats 0
namespace Go.Proofs.YtcahodpphikgnaaGreatDoor
open Go
theorem ratioOf_card:Rows.RatioOfCardSaid:=
 Claim7.holds_tied_plain_at .later [] [.data,.data,.data,.sentinel,.sentinel] true Rows.ratioOfCard.stood.harness true
  MC (λ_ h=>by cases h) ME (λ_ h=>by cases h) ratioOf_row_tie J ⟨J,J⟩ ME J
  (λf fn c d=>by
   obtain rfl:f=4:=Cu ((show Tryz.prog.funcNamed "surd/surdlaw02.RatioOf"=some 4 by kernel_rfl).symm.trans c) |>.symm
   obtain rfl:fn=Tryz.f4:=(Cu (Tryz.func4.symm.trans d)).symm;exact⟨ME,λj t a=>by
    rw[Tryz.params4]at a;have e:t∈[9,9]:=by simpa using Array.mem_of_getElem? a
    have b:([9,9].all λu=>!Tryz.prog.wantsStandIn u)=true:=by kernel_rfl
    exact(show Tryz.prog.wantsStandIn t=false by simpa using AW.1 b t e)⟩)
  ME
end Go.Proofs.YtcahodpphikgnaaGreatDoor
