import Derived.Test.YtakpoihdghihmaaGreatDoorM53
import Derived.Test.YtakpoihdghihmaaGreatDoorCards
import Derived.Test.YtakpoihdghihmaaGreatDoorTie
import Derived.SevenTiedAt
set_option maxRecDepth 100000
set_option maxHeartbeats 16000000
namespace Go.Proofs.YtakpoihdghihmaaGreatDoor
open Go
theorem sturmMade_card:Rows.SturmMadeCardSaid:=
 Claim7.holds_tied_plain_at .later [] [.data,.data,.data,.data,.sentinel,.sentinel,.pinned] true Rows.sturmMadeCard.stood.harness true
  cJ (λ_ h=>by cases h) (by kernel_rfl) (λ_ h=>by cases h) sturmMade_row_tie rfl ⟨rfl,rfl⟩ (by kernel_rfl) rfl
  (λf fn c d=>by
   obtain rfl:f=4:=Cm ((show Tryz.prog.funcNamed "surd/surdlaw05.SturmMade"=some 4 by kernel_rfl).symm.trans c) |>.symm
   obtain rfl:fn=Tryz.f4:=(Cm (Tryz.func4.symm.trans d)).symm;exact⟨by kernel_rfl,λj t a=>by
    rw[Tryz.params4]at a;have e:t∈[53,3,9]:=by simpa using Array.mem_of_getElem? a
    have b:([53,3,9].all λu=>!Tryz.prog.wantsStandIn u)=true:=by kernel_rfl
    exact(show Tryz.prog.wantsStandIn t=false by simpa using A4.1 b t e)⟩)
  (by kernel_rfl)
end Go.Proofs.YtakpoihdghihmaaGreatDoor
