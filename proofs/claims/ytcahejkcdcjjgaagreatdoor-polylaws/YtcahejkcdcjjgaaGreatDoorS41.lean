import Derived.Test.YtcahejkcdcjjgaaGreatDoorS40
import Derived.Test.YtcahejkcdcjjgaaGreatDoorCards
import Derived.Test.YtcahejkcdcjjgaaGreatDoorTie
set_option linter.all false
set_option maxRecDepth 99999
set_option maxHeartbeats 0
namespace Go.Proofs.YtcahejkcdcjjgaaGreatDoor
open Go
theorem polyLaws_card:Rows.PolyLawsCardSaid:=
 Claim7.holds_tied_plain_at .later [] [.data,.data,.data,.data,.sentinel,.sentinel,.pinned] true Rows.polyLawsCard.stood.harness true
  WN (λ_ h=>by cases h) WS (λ_ h=>by cases h) polyLaws_row_tie J ⟨J,J⟩ WS J
  (λf fn c d=>by
   obtain rfl:f=7:=A7 ((show Tryz.prog.funcNamed "surd/surdlaw03.PolyLaws"=some 7 by kernel_rfl).symm.trans c) |>.symm
   obtain rfl:fn=Tryz.f7:=(A7 (Tryz.func7.symm.trans d)).symm;exact⟨WS,λj t a=>by
    rw[Tryz.params7]at a;have e:t∈[9,9,9,9]:=by simpa using Array.mem_of_getElem? a
    have b:([9,9,9,9].all λu=>!Tryz.prog.wantsStandIn u)=true:=by kernel_rfl
    exact(show Tryz.prog.wantsStandIn t=false by simpa using AA.1 b t e)⟩)
  WS
end Go.Proofs.YtcahejkcdcjjgaaGreatDoor
