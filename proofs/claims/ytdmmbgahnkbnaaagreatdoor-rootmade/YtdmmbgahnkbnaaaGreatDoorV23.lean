import Derived.Test.YtdmmbgahnkbnaaaGreatDoorV04
import Derived.Deep.DeepCutAuto
import Derived.Lib.Strings
set_option linter.all false
set_option maxRecDepth 99999
set_option maxHeartbeats 0
namespace Go.Proofs.YtdmmbgahnkbnaaaGreatDoor
open Go.RowKit Go.Shelf
