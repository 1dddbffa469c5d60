import Derived.Test.YtakpoihdghihmaaGreatDoorL34
set_option maxRecDepth 100000
set_option maxHeartbeats 16000000
namespace Go.Proofs.YtakpoihdghihmaaGreatDoor
open Go.RowKit Go.Shelf
section
attribute [local go_sem] Oper.semAt_some
theorem Z2(p q:List Rat){k:Nat}(h:p.length+q.length≤k):∀n,conv p q n k=0:=by
 intro n;induction n with
 |zero=>rfl
 |succ n ih=>
  show conv p q n k+(if n≤k then cf p n*cf q (k-n)else 0)=0
  rw[ih,Rat.zero_add];split
  · by_cases hn:n<p.length
    · rw[J8 (p:=q) (by omega),Rat.mul_zero]
    · rw[J8 (p:=p) (by omega),Cy]
  · rfl
end
namespace M3
attribute [local go_sem] Oper.semAt_some
