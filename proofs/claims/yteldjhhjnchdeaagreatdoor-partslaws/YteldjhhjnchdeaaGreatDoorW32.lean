import Derived.Test.YteldjhhjnchdeaaGreatDoorW31
import Derived.Deep.RegionWith
import Derived.Test.YteldjhhjnchdeaaGreatDoorW28
import Derived.Lib.AppendZeros
set_option maxRecDepth 100000
set_option maxHeartbeats 16000000
namespace Go.Proofs.YteldjhhjnchdeaaGreatDoor
open Go.RowKit Go.Shelf
attribute [local go_sem] Oper.semAt_some
