import Derived.Test.YtakpoihdghihmaaGreatDoorL53
import Derived.Test.YtakpoihdghihmaaGreatDoorCards
import Derived.Test.YtakpoihdghihmaaGreatDoorTie
import Derived.SevenTiedAt
set_option maxRecDepth 100000
set_option maxHeartbeats 16000000
namespace Go.Proofs.YtakpoihdghihmaaGreatDoor
open Go
theorem sturmLaws_card:Rows.SturmLawsCardSaid:=
 Claim7.holds_tied_plain_at .later [] [.data,.data,.data,.data,.sentinel,.sentinel,.pinned] true Rows.sturmLawsCard.stood.harness true
  fS (fun _ h=>by cases h) (by kernel_rfl) (fun _ h=>by cases h) sturmLaws_row_tie rfl ⟨rfl,rfl⟩ (by kernel_rfl) rfl
  (fun f fn hf hfn=>by
   obtain rfl:f=5:=Cp ((show Tryz.prog.funcNamed "surd/surdlaw05.SturmLaws"=some 5 by kernel_rfl).symm.trans hf) |>.symm
   obtain rfl:fn=Tryz.f5:=(Cp (Tryz.func5.symm.trans hfn)).symm;exact⟨by kernel_rfl,fun j t ht=>by
    rw[Tryz.params5]at ht;have hm:t∈[9,9,9,9]:=by simpa using Array.mem_of_getElem? ht
    have Qa:([9,9,9,9].all fun u=>!Tryz.prog.wantsStandIn u)=true:=by kernel_rfl
    exact(show Tryz.prog.wantsStandIn t=false by simpa using A5.1 Qa t hm)⟩)
  (by kernel_rfl)
end Go.Proofs.YtakpoihdghihmaaGreatDoor
