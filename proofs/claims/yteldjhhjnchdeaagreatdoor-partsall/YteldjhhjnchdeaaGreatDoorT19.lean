import Derived.Test.YteldjhhjnchdeaaGreatDoorT07
import Derived.Test.YteldjhhjnchdeaaGreatDoorT18
set_option linter.all false
set_option maxRecDepth 99999
set_option maxHeartbeats 0
namespace Go.Proofs.YteldjhhjnchdeaaGreatDoor
open Go.RowKit Go.Shelf
theorem QY:∀(ds:kQ),ds.take (Jz ds).length=Jz ds
 |[]=>rfl
 |d::ds=>by
  have a:=QY ds;grind[Jz]
variable{cs:kQ}{a n:Nat}
theorem X8:2<=Dl:=by unfold Dl;omega
def QZ:Dl<Z:=by unfold Dl Z;omega
theorem Ev.chunk{a:kQ}{l rest:Nat}{q:kQ}(h:Ev a l Dl l rest q)(f:a.take l=Jc Z n):
 rest=n%Dl/\Jz q=Jc Z (n/Dl):=by
 obtain⟨b,c,d,e⟩:=h;grind[Z,Jp,Nat.add_mul_div_right,A3,Nat.add_mul_mod_self_right,Ci,J6]
def Ex(a:Nat)(cs:kQ)(n:Nat):Prop:=cs++Jc Dl n=Jc Dl a
def Ex.start(a:Nat):Ex a [] a:=rfl
theorem Ex.step(h:Ex a cs n)(b:n≠0):Ex a (cs++[n%Dl]) (n/Dl):=by
 grind[Ex,XP,X8]
theorem Ex.done(h:Ex a cs 0):cs=Jc Dl a:=by
 grind[Ex,JD]
def Ex.length{a:Nat}{cs:kQ}{n:Nat}(h:Ex a cs n):cs.length<=(Jc Dl a).length:=by
 rw[<-h,At];omega
def Q3{len:Nat}(h:(Jc Z n).length<=len):(Jc Dl n).length<=2*len:=by
 refine JO X8 ?_;have a:2<=Z:=by unfold Z;omega
 have c:n<Z^(Jc Z n).length:=by
  have:=Yl (Jo a n);rwa[Jp a]at this
 have d:Z^(Jc Z n).length<=Z^len:=Ag O h;have b:Z^len<=(Dl^2)^len:=Cs (by unfold Z Dl;decide) len;rw[<-Fz]at b;omega
def Zf(h:n≠0):JX (Jc Dl n)=Xz n:=by
 have a:=Jp X8 n;rw[Vu ?_ (Jo X8 n) (Yr X8 n),a];intro e;rw[e]at a;exact h a.symm
