import Derived.Test.YtcahejkcdcjjgaaGreatDoorU37
import Derived.Test.YtcahejkcdcjjgaaGreatDoorCards
import Derived.Test.YtcahejkcdcjjgaaGreatDoorTie
set_option linter.all false
set_option maxRecDepth 99999
set_option maxHeartbeats 0
namespace Go.Proofs.YtcahejkcdcjjgaaGreatDoor
open Go
theorem polyBack_card:Rows.PolyBackCardSaid:=
 Claim7.holds_tied_plain_at .later [] [.data,.data,.data,.data,.sentinel,.sentinel,.pinned] true Rows.polyBackCard.stood.harness true
  TZ (λ_ h=>by cases h) Tc (λ_ h=>by cases h) polyBack_row_tie J ⟨J,J⟩ Tc J
  (λf fn c d=>by
   obtain rfl:f=8:=AU ((show Tryz.prog.funcNamed "surd/surdlaw03.PolyBack"=some 8 by kernel_rfl).symm.trans c) |>.symm
   obtain rfl:fn=Tryz.f8:=(AU (Tryz.func8.symm.trans d)).symm;exact⟨Tc,λj t a=>by
    rw[Tryz.params8]at a;have e:t∈[9]:=by simpa using Array.mem_of_getElem? a
    have b:([9].all λu=>!Tryz.prog.wantsStandIn u)=true:=by kernel_rfl
    exact(show Tryz.prog.wantsStandIn t=false by simpa using Am.1 b t e)⟩)
  Tc
end Go.Proofs.YtcahejkcdcjjgaaGreatDoor
