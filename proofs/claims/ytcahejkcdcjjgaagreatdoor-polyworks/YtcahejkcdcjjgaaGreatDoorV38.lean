import Derived.Test.YtcahejkcdcjjgaaGreatDoorV37
import Derived.Test.YtcahejkcdcjjgaaGreatDoorCards
import Derived.Test.YtcahejkcdcjjgaaGreatDoorTie
set_option linter.all false
set_option maxRecDepth 99999
set_option maxHeartbeats 0
namespace Go.Proofs.YtcahejkcdcjjgaaGreatDoor
open Go
theorem polyWorks_card:Rows.PolyWorksCardSaid:=
 Claim7.holds_tied_plain_at .later [] [.data,.data,.data,.data,.sentinel,.sentinel,.pinned] true Rows.polyWorksCard.stood.harness true
  V5 (λ_ h=>by cases h) V9 (λ_ h=>by cases h) polyWorks_row_tie J ⟨J,J⟩ V9 J
  (λf fn c d=>by
   obtain rfl:f=5:=A3 ((show Tryz.prog.funcNamed "surd/surdlaw03.PolyWorks"=some 5 by kernel_rfl).symm.trans c) |>.symm
   obtain rfl:fn=Tryz.f5:=(A3 (Tryz.func5.symm.trans d)).symm;exact⟨V9,λj t a=>by
    rw[Tryz.params5]at a;have e:t∈[9,9]:=by simpa using Array.mem_of_getElem? a
    have b:([9,9].all λu=>!Tryz.prog.wantsStandIn u)=true:=by kernel_rfl
    exact(show Tryz.prog.wantsStandIn t=false by simpa using Az.1 b t e)⟩)
  V9
end Go.Proofs.YtcahejkcdcjjgaaGreatDoor
