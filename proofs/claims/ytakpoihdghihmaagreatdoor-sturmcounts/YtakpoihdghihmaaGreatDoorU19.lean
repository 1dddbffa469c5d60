import Derived.Test.YtakpoihdghihmaaGreatDoorU07
import Derived.Test.YtakpoihdghihmaaGreatDoorU18
set_option linter.all false
set_option maxRecDepth 99999
set_option maxHeartbeats 0
namespace Go.Proofs.YtakpoihdghihmaaGreatDoor
open Go.RowKit Go.Shelf
variable{cs:m4}{a:Nat}
theorem bJ:2<=IQ:=by unfold IQ;omega
def Gp(a:Nat)(cs:m4)(n:Nat):Prop:=cs++Jd IQ n=Jd IQ a
def Gp.start(a:Nat):Gp a [] a:=rfl
theorem Gp.step{n:Nat}(h:Gp a cs n)(b:n≠0):Gp a (cs++[n%IQ]) (n/IQ):=by
 grind[Gp,X8,bJ]
theorem Gp.done(h:Gp a cs 0):cs=Jd IQ a:=by
 grind[Gp,JG]
def Gp.length{a:Nat}{cs:m4}{n:Nat}(h:Gp a cs n):cs.length<=(Jd IQ a).length:=by
 rw[<-h,Cc];omega
