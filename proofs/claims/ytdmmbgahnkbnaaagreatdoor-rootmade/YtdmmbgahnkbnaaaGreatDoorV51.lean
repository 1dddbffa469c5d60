import Derived.Test.YtdmmbgahnkbnaaaGreatDoorV50
import Derived.Test.YtdmmbgahnkbnaaaGreatDoorCards
import Derived.Test.YtdmmbgahnkbnaaaGreatDoorTie
import Derived.SevenTiedAt
set_option linter.all false
set_option maxRecDepth 99999
set_option maxHeartbeats 0
namespace Go.Proofs.YtdmmbgahnkbnaaaGreatDoor
open Go
theorem rootMade_card:Rows.RootMadeCardSaid:=
 Claim7.holds_tied_plain_at .later [] [.data,.data,.data,.data,.sentinel,.sentinel,.pinned] true Rows.rootMadeCard.stood.harness true
  ve (λ_ h=>by cases h) (by as_aux_lemma=>kernel_rfl) (λ_ h=>by cases h) rootMade_row_tie rfl ⟨rfl,rfl⟩ (by as_aux_lemma=>kernel_rfl) rfl
  (λf fn c d=>by
   obtain rfl:f=6:=Co ((show Tryz.prog.funcNamed "surd/surdlaw06.RootMade"=some 6 by as_aux_lemma=>kernel_rfl).symm.trans c) |>.symm
   obtain rfl:fn=Tryz.f6:=(Co (Tryz.func6.symm.trans d)).symm;exact⟨by as_aux_lemma=>kernel_rfl,λj t a=>by
    rw[Tryz.params6]at a;have e:t∈[71,3,3]:=by simpa using Array.mem_of_getElem? a
    have b:([71,3,3].all λu=>!Tryz.prog.wantsStandIn u)=true:=by as_aux_lemma=>kernel_rfl
    exact(show Tryz.prog.wantsStandIn t=false by simpa using AJ.1 b t e)⟩)
  (by as_aux_lemma=>kernel_rfl)
end Go.Proofs.YtdmmbgahnkbnaaaGreatDoor
