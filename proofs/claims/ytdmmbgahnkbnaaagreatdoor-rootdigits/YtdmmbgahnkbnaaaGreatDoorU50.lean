import Derived.Test.YtdmmbgahnkbnaaaGreatDoorU49
import Derived.Test.YtdmmbgahnkbnaaaGreatDoorCards
import Derived.Test.YtdmmbgahnkbnaaaGreatDoorTie
import Derived.SevenTiedAt
set_option linter.all false
set_option maxRecDepth 99999
set_option maxHeartbeats 0
namespace Go.Proofs.YtdmmbgahnkbnaaaGreatDoor
open Go
theorem rootDigits_card:Rows.RootDigitsCardSaid:=
 Claim7.holds_tied_plain_at .later [] [.data,.data,.data,.data,.sentinel,.sentinel,.pinned] true Rows.rootDigitsCard.stood.harness true
  th (λ_ h=>by cases h) (by as_aux_lemma=>kernel_rfl) (λ_ h=>by cases h) rootDigits_row_tie rfl ⟨rfl,rfl⟩ (by as_aux_lemma=>kernel_rfl) rfl
  (λf fn c d=>by
   obtain rfl:f=7:=Cn ((show Tryz.prog.funcNamed "surd/surdlaw06.RootDigits"=some 7 by as_aux_lemma=>kernel_rfl).symm.trans c) |>.symm
   obtain rfl:fn=Tryz.f7:=(Cn (Tryz.func7.symm.trans d)).symm;exact⟨by as_aux_lemma=>kernel_rfl,λj t a=>by
    rw[Tryz.params7]at a;have e:t∈[9,9,3]:=by simpa using Array.mem_of_getElem? a
    have b:([9,9,3].all λu=>!Tryz.prog.wantsStandIn u)=true:=by as_aux_lemma=>kernel_rfl
    exact(show Tryz.prog.wantsStandIn t=false by simpa using AD.1 b t e)⟩)
  (by as_aux_lemma=>kernel_rfl)
end Go.Proofs.YtdmmbgahnkbnaaaGreatDoor
