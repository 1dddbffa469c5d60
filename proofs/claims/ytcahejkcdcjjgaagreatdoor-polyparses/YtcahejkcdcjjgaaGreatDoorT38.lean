import Derived.Test.YtcahejkcdcjjgaaGreatDoorT37
import Derived.Test.YtcahejkcdcjjgaaGreatDoorCards
import Derived.Test.YtcahejkcdcjjgaaGreatDoorTie
set_option linter.all false
set_option maxRecDepth 99999
set_option maxHeartbeats 0
namespace Go.Proofs.YtcahejkcdcjjgaaGreatDoor
open Go
theorem polyParses_card:Rows.PolyParsesCardSaid:=
 Claim7.holds_tied_plain_at .later [] [.data,.data,.data,.data,.sentinel,.sentinel,.pinned] true Rows.polyParsesCard.stood.harness true
  TR (λ_ h=>by cases h) TT (λ_ h=>by cases h) polyParses_row_tie J ⟨J,J⟩ TT J
  (λf fn c d=>by
   obtain rfl:f=3:=AY ((show Tryz.prog.funcNamed "surd/surdlaw03.PolyParses"=some 3 by kernel_rfl).symm.trans c) |>.symm
   obtain rfl:fn=Tryz.f3:=(AY (Tryz.func3.symm.trans d)).symm;exact⟨TT,λj t a=>by
    rw[Tryz.params3]at a;have e:t∈[9,3]:=by simpa using Array.mem_of_getElem? a
    have b:([9,3].all λu=>!Tryz.prog.wantsStandIn u)=true:=by kernel_rfl
    exact(show Tryz.prog.wantsStandIn t=false by simpa using Ay.1 b t e)⟩)
  TT
end Go.Proofs.YtcahejkcdcjjgaaGreatDoor
