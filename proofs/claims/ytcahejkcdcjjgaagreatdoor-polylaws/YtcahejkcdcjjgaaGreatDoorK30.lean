import Derived.Test.YtcahejkcdcjjgaaGreatDoorK25
import Derived.Test.YtcahejkcdcjjgaaGreatDoorK02
import Derived.Deep.Upon
set_option maxRecDepth 100000
set_option maxHeartbeats 16000000
namespace Go.Proofs.YtcahejkcdcjjgaaGreatDoor
open Go.RowKit Go.Shelf
attribute [local go_sem] Oper.semAt_some
end Go.Proofs.YtcahejkcdcjjgaaGreatDoor
