import Derived.Test.YtcahejkcdcjjgaaGreatDoorK37
import Derived.Test.YtcahejkcdcjjgaaGreatDoorK32
import Derived.Test.YtcahejkcdcjjgaaGreatDoorK38
import Derived.Test.YtcahejkcdcjjgaaGreatDoorK27
import Derived.Test.YtcahejkcdcjjgaaGreatDoorK28
set_option maxRecDepth 100000
set_option maxHeartbeats 16000000
namespace Go.Proofs.YtcahejkcdcjjgaaGreatDoor
open Go.RowKit Go.Shelf
attribute [local go_sem] Oper.semAt_some
def Jp3 (l:List UInt8) (w:World) (e:Ending) (w':World):Prop:=∃ u,e=.returned (.tuple #[u,.bool (YN l).isSome])∧Jy w' u (Jfv l)∧Below w.heap.size w w'
theorem Jp3.of {l:List UInt8} {w w':World} {u:Value} {o:Option Rat} (h:YN l=o) {b:Bool} (hb:o.isSome=b) (hu:Jy w' u (o.getD 0)) (hB:Below w.heap.size w w'):Jp3 l w (.returned (.tuple #[u,.bool b])) w':=
 ⟨u,by rw [h,hb],by unfold Jfv;rw [h];exact hu,hB⟩
end Go.Proofs.YtcahejkcdcjjgaaGreatDoor
