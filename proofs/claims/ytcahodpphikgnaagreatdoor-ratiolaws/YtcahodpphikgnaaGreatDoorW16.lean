import Derived.Test.YtcahodpphikgnaaGreatDoorW00
set_option linter.all false
set_option maxRecDepth 99999
set_option maxHeartbeats 0
namespace Go.Proofs.YtcahodpphikgnaaGreatDoor
def cf(p:Z)(i:Nat):Rat:=p[i]?.getD 0
def ev:Z→Rat→Rat
 |[],_=>0
 |c::t,x=>c+x*ev t x
def dv:Z→Rat→Rat
 |[],_=>0
 |_::t,x=>ev t x+x*dv t x
