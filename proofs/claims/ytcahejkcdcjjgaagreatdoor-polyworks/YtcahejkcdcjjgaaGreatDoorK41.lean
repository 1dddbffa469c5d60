import Derived.Test.YtcahejkcdcjjgaaGreatDoorK32
import Derived.Test.YtcahejkcdcjjgaaGreatDoorK38
set_option maxRecDepth 100000
set_option maxHeartbeats 16000000
namespace Go.Proofs.YtcahejkcdcjjgaaGreatDoor
open Go.RowKit Go.Shelf
attribute [local go_sem] Oper.semAt_some
def Jr1(l:List UInt8)(w:World)(e:Ending)(w':World):Prop:=∃u,e=.returned (.tuple #[u,.bool (YV l).isSome])∧Jq w' u (Jhg l)∧Below w.heap.size w w'
theorem Jr1.of{l:List UInt8}{w w':World}{u:Value}{o:Option Rat}(h:YV l=o){b:Bool}(hb:o.isSome=b)(hu:Jq w' u (o.getD 0))(hB:Below w.heap.size w w'):Jr1 l w (.returned (.tuple #[u,.bool b])) w':=
 ⟨u,by rw[h,hb],by unfold Jhg;rw[h];exact hu,hB⟩
