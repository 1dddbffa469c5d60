import Derived.Test.YtcahodpphikgnaaGreatDoorV00
set_option linter.all false
set_option maxRecDepth 99999
set_option maxHeartbeats 0
namespace Go.Proofs.YtcahodpphikgnaaGreatDoor
def cf(p:X)(i:Nat):Rat:=p[i]?.getD 0
def ev:X->Rat->Rat
 |[],_=>0
 |c::t,x=>c+x*ev t x
def dv:X->Rat->Rat
 |[],_=>0
 |_::t,x=>ev t x+x*dv t x
def sumN:Nat->(Nat->Rat)->Rat
 |0,_=>0
 |n+1,f=>sumN n f+f n
