import Derived.Test.YtakpoihdghihmaaGreatDoorR02
import Derived.Lib.ItoaNum
import Derived.Test.YtakpoihdghihmaaGreatDoorR18
import Derived.Test.YtakpoihdghihmaaGreatDoorR09
import Derived.Test.YtakpoihdghihmaaGreatDoorRShelf
import Derived.Lib.ItoaMem
import Derived.Lib.AppendStr
import Derived.Lib.UnsafeStr
import Derived.Laws.Externs
import Derived.Shelf.Strings.Builder1
set_option maxRecDepth 100000
set_option maxHeartbeats 16000000
namespace Go.Proofs.YtakpoihdghihmaaGreatDoor
open Go.RowKit Go.Shelf
attribute [local go_sem] Oper.semAt_some
variable{p q:Prop}
theorem Jc{P:Program}{c:Array Oper}{Q:Exit->Act->World->Prop}{i:Nat}{o:Oper}{K:Act->World->Prop}{a:Act}{w:World}(e:c[i]?=some o)(d:o.guard=none)
(h:∀b:Act->World->Prop,(∀a w,K a w->b a w)->o.wp P a w b Q):wpOp P c Q i K a w:=by
 unfold wpOp;rw[e];simp only[Region.wanted,d,if_true];exact Or.inl (h K λ_ _ h=>h)

theorem Za(k:q)(h:Hid q->p:=by intro x;refine Jc rfl rfl λK a=>?_;go_simp;exact a _ _ x.o):p:=h k
theorem DS(k:q)(h:Hid q->p:=by intro x;refine Jc rfl rfl λK a=>?_;go_simp;refine a _ _ ?_;(repeat apply Exists.intro);refine ⟨rfl,?_⟩;exact x.o):p:=h k