import Derived.Test.YtakpoihdghihmaaGreatDoorL02
import Derived.Lib.ItoaNum
import Derived.Test.YtakpoihdghihmaaGreatDoorL18
import Derived.Test.YtakpoihdghihmaaGreatDoorL09
import Derived.Test.YtakpoihdghihmaaGreatDoorLShelf
import Derived.Lib.ItoaMem
import Derived.Lib.AppendStr
import Derived.Lib.UnsafeStr
import Derived.Laws.Externs
import Derived.Shelf.Strings.Builder1
set_option maxRecDepth 100000
set_option maxHeartbeats 16000000
namespace Go.Proofs.YtakpoihdghihmaaGreatDoor
open Go.RowKit Go.Shelf
attribute [local go_sem] Oper.semAt_some
theorem Jb{P:Program}{ops:Array Oper}{Q:Exit→Act→World→Prop}{i:Nat}{o:Oper}{K:Act→World→Prop}{a:Act}{w:World}(ho:ops[i]?=some o)(hgd:o.guard=none)
(h:∀K':Act→World→Prop,(∀a w,K a w→K' a w)→o.wp P a w K' Q):wpOp P ops Q i K a w:=by
 unfold wpOp;rw[ho];simp only[Region.wanted,hgd,if_true];exact Or.inl (h K (fun _ _ h=>h))

theorem Va{p q:Prop}(k:q)(h:Hid q→p:=by intro x;refine Jb rfl rfl fun K hK=>?_;go_simp;exact hK _ _ x.o):p:=h k
theorem DZ{p q:Prop}(k:q)(h:Hid q→p:=by intro x;refine Jb rfl rfl fun K hK=>?_;go_simp;refine hK _ _ ?_;(repeat apply Exists.intro);refine ⟨rfl,?_⟩;exact x.o):p:=h k