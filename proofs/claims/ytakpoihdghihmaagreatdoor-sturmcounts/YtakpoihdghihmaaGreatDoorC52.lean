import Derived.Test.YtakpoihdghihmaaGreatDoorC51
import Derived.Test.YtakpoihdghihmaaGreatDoorCards
import Derived.Test.YtakpoihdghihmaaGreatDoorTie
import Derived.SevenTiedAt
set_option maxRecDepth 100000
set_option maxHeartbeats 16000000
namespace Go.Proofs.YtakpoihdghihmaaGreatDoor
open Go
theorem sturmCounts_card:Rows.SturmCountsCardSaid:=
 Claim7.holds_tied_plain_at .later [] [.data,.data,.data,.data,.sentinel,.sentinel,.pinned] true Rows.sturmCountsCard.stood.harness true
  mQ (λ_ h=>by cases h) (by kernel_rfl) (λ_ h=>by cases h) sturmCounts_row_tie rfl ⟨rfl,rfl⟩ (by kernel_rfl) rfl
  (λf fn c d=>by
   obtain rfl:f=3:=Ck ((show Tryz.prog.funcNamed "surd/surdlaw05.SturmCounts"=some 3 by kernel_rfl).symm.trans c) |>.symm
   obtain rfl:fn=Tryz.f3:=(Ck (Tryz.func3.symm.trans d)).symm;exact⟨by kernel_rfl,λj t a=>by
    rw[Tryz.params3]at a;have e:t∈[9,9,9,9]:=by simpa using Array.mem_of_getElem? a
    have b:([9,9,9,9].all λu=>!Tryz.prog.wantsStandIn u)=true:=by kernel_rfl
    exact(show Tryz.prog.wantsStandIn t=false by simpa using Cj.1 b t e)⟩)
  (by kernel_rfl)
end Go.Proofs.YtakpoihdghihmaaGreatDoor
