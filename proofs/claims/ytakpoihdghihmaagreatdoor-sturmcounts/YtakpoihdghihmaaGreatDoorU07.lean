import Derived.Test.YtakpoihdghihmaaGreatDoorU02
import Derived.Lib.ItoaNum
set_option linter.all false
set_option maxRecDepth 99999
set_option maxHeartbeats 0
namespace Go.Proofs.YtakpoihdghihmaaGreatDoor
def IQ:Nat:=10000000000000000000
