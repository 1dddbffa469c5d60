import Derived.Test.YtcahejkcdcjjgaaGreatDoorT49
import Derived.Test.YtcahejkcdcjjgaaGreatDoorCards
import Derived.Test.YtcahejkcdcjjgaaGreatDoorTie
import Derived.SevenTiedAt
set_option maxRecDepth 100000
set_option maxHeartbeats 16000000
namespace Go.Proofs.YtcahejkcdcjjgaaGreatDoor
open Go
theorem polyAt_card:Rows.PolyAtCardSaid:=
 Claim7.holds_tied_plain_at .later [] [.data,.data,.data,.data,.sentinel,.sentinel,.pinned] true Rows.polyAtCard.stood.harness true
  Zy (λ_ h=>by cases h) (by kernel_rfl) (λ_ h=>by cases h) polyAt_row_tie rfl ⟨rfl,rfl⟩ (by kernel_rfl) rfl
  (λf fn b d=>by
   obtain rfl:f=6:=A6 ((show Tryz.prog.funcNamed "surd/surdlaw03.PolyAt"=some 6 by kernel_rfl).symm.trans b) |>.symm
   obtain rfl:fn=Tryz.f6:=(A6 (Tryz.func6.symm.trans d)).symm;exact⟨by kernel_rfl,λj t a=>by
    rw[Tryz.params6]at a;have e:t∈[9,9]:=by simpa using Array.mem_of_getElem? a
    have c:([9,9].all λu=>!Tryz.prog.wantsStandIn u)=true:=by kernel_rfl
    exact(show Tryz.prog.wantsStandIn t=false by simpa using A8.1 c t e)⟩)
  (by kernel_rfl)
end Go.Proofs.YtcahejkcdcjjgaaGreatDoor
