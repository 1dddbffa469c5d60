import Derived.Test.YtakpoihdghihmaaGreatDoorR09
import Derived.Test.YtakpoihdghihmaaGreatDoorRShelf
import Derived.Lib.ItoaMem
set_option maxRecDepth 100000
set_option maxHeartbeats 16000000
namespace Go.Proofs.YtakpoihdghihmaaGreatDoor
open Go.RowKit Go.Shelf Go.Sort Go.Lib
