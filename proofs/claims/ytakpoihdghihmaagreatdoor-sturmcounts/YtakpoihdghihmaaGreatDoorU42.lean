import Derived.Test.YtakpoihdghihmaaGreatDoorU41
import Derived.Test.YtakpoihdghihmaaGreatDoorCards
import Derived.Test.YtakpoihdghihmaaGreatDoorTie
set_option linter.all false
set_option maxRecDepth 99999
set_option maxHeartbeats 0
namespace Go.Proofs.YtakpoihdghihmaaGreatDoor
open Go
theorem sturmCounts_card:Rows.SturmCountsCardSaid:=
 Claim7.holds_tied_plain_at .later [] [.data,.data,.data,.data,.sentinel,.sentinel,.pinned] true Rows.sturmCountsCard.stood.harness true
  nI (λ_ h=>by cases h) nK (λ_ h=>by cases h) sturmCounts_row_tie J ⟨J,J⟩ nK J
  (λf fn c d=>by
   obtain rfl:f=3:=Ck ((show Tryz.prog.funcNamed "surd/surdlaw05.SturmCounts"=some 3 by kernel_rfl).symm.trans c) |>.symm
   obtain rfl:fn=Tryz.f3:=(Ck (Tryz.func3.symm.trans d)).symm;exact⟨nK,λj t a=>by
    rw[Tryz.params3]at a;have e:t∈[9,9,9,9]:=by simpa using Array.mem_of_getElem? a
    have b:([9,9,9,9].all λu=>!Tryz.prog.wantsStandIn u)=true:=by kernel_rfl
    exact(show Tryz.prog.wantsStandIn t=false by simpa using AR.1 b t e)⟩)
  nK
end Go.Proofs.YtakpoihdghihmaaGreatDoor
