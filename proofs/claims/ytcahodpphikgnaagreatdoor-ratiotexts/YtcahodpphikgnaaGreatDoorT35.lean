import Derived.Test.YtcahodpphikgnaaGreatDoorT34
import Derived.Test.YtcahodpphikgnaaGreatDoorCards
import Derived.Test.YtcahodpphikgnaaGreatDoorTie
set_option linter.all false
set_option maxRecDepth 99999
set_option maxHeartbeats 0
namespace Go.Proofs.YtcahodpphikgnaaGreatDoor
open Go
theorem ratioTexts_card:Rows.RatioTextsCardSaid:=
 Claim7.holds_tied_plain_at .later [] [.data,.data,.data,.sentinel,.sentinel] true Rows.ratioTextsCard.stood.harness true
  Ni (λ_ h=>by cases h) Nk (λ_ h=>by cases h) ratioTexts_row_tie J ⟨J,J⟩ Nk J
  (λf fn c d=>by
   obtain rfl:f=3:=Cs ((show Tryz.prog.funcNamed "surd/surdlaw02.RatioTexts"=some 3 by kernel_rfl).symm.trans c) |>.symm
   obtain rfl:fn=Tryz.f3:=(Cs (Tryz.func3.symm.trans d)).symm;exact⟨Nk,λj t a=>by
    rw[Tryz.params3]at a;have e:t∈[9,3]:=by simpa using Array.mem_of_getElem? a
    have b:([9,3].all λu=>!Tryz.prog.wantsStandIn u)=true:=by kernel_rfl
    exact(show Tryz.prog.wantsStandIn t=false by simpa using AZ.1 b t e)⟩)
  Nk
end Go.Proofs.YtcahodpphikgnaaGreatDoor
