import Derived.Test.YtakpoihdghihmaaGreatDoorR04
import Derived.Deep.DeepCutAuto
import Derived.Lib.Strings
set_option maxRecDepth 100000
set_option maxHeartbeats 16000000
namespace Go.Proofs.YtakpoihdghihmaaGreatDoor
open Go.RowKit Go.Shelf
