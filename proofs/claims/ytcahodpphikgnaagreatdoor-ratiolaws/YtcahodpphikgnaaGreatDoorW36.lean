import Derived.Test.YtcahodpphikgnaaGreatDoorW35
import Derived.Test.YtcahodpphikgnaaGreatDoorCards
import Derived.Test.YtcahodpphikgnaaGreatDoorTie
set_option linter.all false
set_option maxRecDepth 99999
set_option maxHeartbeats 0
namespace Go.Proofs.YtcahodpphikgnaaGreatDoor
open Go
theorem ratioLaws_card:Rows.RatioLawsCardSaid:=
 Claim7.holds_tied_plain_at .later [] [.data,.data,.data,.sentinel,.sentinel] true Rows.ratioLawsCard.stood.harness true
  Ly (fun _ h=>by cases h) Lz (fun _ h=>by cases h) ratioLaws_row_tie J ⟨J,J⟩ Lz J
  (fun f fn hf hfn=>by
   obtain rfl:f=6:=CE ((show Tryz.prog.funcNamed "surd/surdlaw02.RatioLaws"=some 6 by kernel_rfl).symm.trans hf) |>.symm
   obtain rfl:fn=Tryz.f6:=(CE (Tryz.func6.symm.trans hfn)).symm;exact⟨Lz,fun j t ht=>by
    rw[Tryz.params6]at ht;have hm:t∈[9,9,9,3]:=by simpa using Array.mem_of_getElem? ht
    have Qa:([9,9,9,3].all fun u=>!Tryz.prog.wantsStandIn u)=true:=by kernel_rfl
    exact(show Tryz.prog.wantsStandIn t=false by simpa using AJ.1 Qa t hm)⟩)
  Lz
end Go.Proofs.YtcahodpphikgnaaGreatDoor
