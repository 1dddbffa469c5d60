import Derived.Test.YtcahejkcdcjjgaaGreatDoorQ37
import Derived.Test.YtcahejkcdcjjgaaGreatDoorCards
import Derived.Test.YtcahejkcdcjjgaaGreatDoorTie
set_option linter.all false
set_option maxRecDepth 99999
set_option maxHeartbeats 0
namespace Go.Proofs.YtcahejkcdcjjgaaGreatDoor
open Go
theorem polyOf_card:Rows.PolyOfUptoCardSaid:=
 Claim7.holds_tied_plain_at .later [] [.data,.data,.data,.data,.sentinel,.sentinel,.pinned] true Rows.polyOfUptoCard.stood.harness true
  TQ (λ_ h=>by cases h) TS (λ_ h=>by cases h) polyOfUpto_row_tie J ⟨J,J⟩ TS J
  (λf fn c d=>by
   obtain rfl:f=4:=AP ((show Tryz.prog.funcNamed "surd/surdlaw03.PolyOf"=some 4 by kernel_rfl).symm.trans c) |>.symm
   obtain rfl:fn=Tryz.f4:=(AP (Tryz.func4.symm.trans d)).symm;exact⟨TS,λj t a=>by
    rw[Tryz.params4]at a;have e:t∈[53]:=by simpa using Array.mem_of_getElem? a
    have b:([53].all λu=>!Tryz.prog.wantsStandIn u)=true:=by kernel_rfl
    exact(show Tryz.prog.wantsStandIn t=false by simpa using Ay.1 b t e)⟩)
  TS
end Go.Proofs.YtcahejkcdcjjgaaGreatDoor
