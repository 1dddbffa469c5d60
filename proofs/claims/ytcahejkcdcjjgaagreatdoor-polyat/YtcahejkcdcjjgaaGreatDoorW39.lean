import Derived.Test.YtcahejkcdcjjgaaGreatDoorW38
import Derived.Test.YtcahejkcdcjjgaaGreatDoorCards
import Derived.Test.YtcahejkcdcjjgaaGreatDoorTie
set_option linter.all false
set_option maxRecDepth 99999
set_option maxHeartbeats 0
namespace Go.Proofs.YtcahejkcdcjjgaaGreatDoor
open Go
theorem polyAt_card:Rows.PolyAtCardSaid:=
 Claim7.holds_tied_plain_at .later [] [.data,.data,.data,.data,.sentinel,.sentinel,.pinned] true Rows.polyAtCard.stood.harness true
  Zt (λ_ h=>by cases h) Zv (λ_ h=>by cases h) polyAt_row_tie J ⟨J,J⟩ Zv J
  (λf fn c d=>by
   obtain rfl:f=6:=AW ((show Tryz.prog.funcNamed "surd/surdlaw03.PolyAt"=some 6 by kernel_rfl).symm.trans c) |>.symm
   obtain rfl:fn=Tryz.f6:=(AW (Tryz.func6.symm.trans d)).symm;exact⟨Zv,λj t a=>by
    rw[Tryz.params6]at a;have e:t∈[9,9]:=by simpa using Array.mem_of_getElem? a
    have b:([9,9].all λu=>!Tryz.prog.wantsStandIn u)=true:=by kernel_rfl
    exact(show Tryz.prog.wantsStandIn t=false by simpa using AH.1 b t e)⟩)
  Zv
end Go.Proofs.YtcahejkcdcjjgaaGreatDoor
