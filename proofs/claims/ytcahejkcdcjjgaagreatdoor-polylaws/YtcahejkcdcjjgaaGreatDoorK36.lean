import Derived.Test.YtcahejkcdcjjgaaGreatDoorK35
import Derived.Test.YtcahejkcdcjjgaaGreatDoorK28
import Derived.Test.YtcahejkcdcjjgaaGreatDoorK09
set_option maxRecDepth 100000
set_option maxHeartbeats 16000000
namespace Go.Proofs.YtcahejkcdcjjgaaGreatDoor.M3
open Go.RowKit Go.Shelf
attribute [local go_sem] Oper.semAt_some
end Go.Proofs.YtcahejkcdcjjgaaGreatDoor.M3
