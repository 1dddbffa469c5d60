import Derived.Test.YteldjhhjnchdeaaGreatDoorU04
import Derived.Deep.DeepCutAuto
import Derived.Lib.Strings
set_option maxRecDepth 100000
set_option maxHeartbeats 16000000
namespace Go.Proofs.YteldjhhjnchdeaaGreatDoor
open Go.RowKit Go.Shelf
