import Derived.Test.YtdmmbgahnkbnaaaGreatDoorV43
import Derived.Shelf.SlSortCmp.WholeK
set_option linter.all false
set_option maxRecDepth 99999
set_option maxHeartbeats 0
namespace Go.Proofs.YtdmmbgahnkbnaaaGreatDoor
open Go.RowKit Go.Shelf Go.Lib Go.Sort
def tI{n:Nat}(f:Fin n->RtQ)(a:∀i,(f i).Ok):SWO (ltOf λi j:Fin n=>(f i).ord (f j)) where
 irrefl x:=by show decide ((f x).ord (f x)<0)=false;rw[(a x).ord_self];rfl
 trans x y z h1 h2:=by
  unfold ltOf at *;simp only[Bw]at *;rw[(a _).ord_lt (a _)]at *;exact h1.trans (a x).sd (a y).sd h2
 ntrans x y z h1 h2:=by
  unfold ltOf at *;simp only[Bk]at *;rw[(a _).ord_lt (a _)]at *;intro b;rcases(a x).order (a y)with⟨_,i⟩|⟨_,i⟩|⟨_,i⟩
  . exact h1 i
  . exact h2 (i.trans (a y).sd (a x).sd b)
  . have e:(f x).S=(f y).S:=funext i;rw[e]at b;exact h2 b
