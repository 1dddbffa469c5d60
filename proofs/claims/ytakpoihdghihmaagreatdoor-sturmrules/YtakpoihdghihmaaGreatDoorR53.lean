import Derived.Test.YtakpoihdghihmaaGreatDoorR52
import Derived.Test.YtakpoihdghihmaaGreatDoorCards
import Derived.Test.YtakpoihdghihmaaGreatDoorTie
import Derived.SevenTiedAt
set_option maxRecDepth 100000
set_option maxHeartbeats 16000000
namespace Go.Proofs.YtakpoihdghihmaaGreatDoor
open Go
theorem sturmRules_card:Rows.SturmRulesCardSaid:=
 Claim7.holds_tied_plain_at .later [] [.data,.data,.data,.data,.sentinel,.sentinel,.pinned] true Rows.sturmRulesCard.stood.harness true
  iZ (λ_ h=>by cases h) (by kernel_rfl) (λ_ h=>by cases h) sturmRules_row_tie rfl ⟨rfl,rfl⟩ (by kernel_rfl) rfl
  (λf fn c d=>by
   obtain rfl:f=7:=Cv ((show Tryz.prog.funcNamed "surd/surdlaw05.SturmRules"=some 7 by kernel_rfl).symm.trans c) |>.symm
   obtain rfl:fn=Tryz.f7:=(Cv (Tryz.func7.symm.trans d)).symm;exact⟨by kernel_rfl,λj t a=>by
    rw[Tryz.params7]at a;have e:t∈[9,9,9,9]:=by simpa using Array.mem_of_getElem? a
    have b:([9,9,9,9].all λu=>!Tryz.prog.wantsStandIn u)=true:=by kernel_rfl
    exact(show Tryz.prog.wantsStandIn t=false by simpa using Ca.1 b t e)⟩)
  (by kernel_rfl)
end Go.Proofs.YtakpoihdghihmaaGreatDoor
