import Derived.Test.YtcahodpphikgnaaGreatDoorT06
import Derived.Test.YtcahodpphikgnaaGreatDoorT19
set_option linter.all false
set_option maxRecDepth 99999
set_option maxHeartbeats 0
namespace Go.Proofs.YtcahodpphikgnaaGreatDoor
open Go.RowKit Go.Shelf
theorem Gg:∀(ds:Ja),ds.take (Jl ds).length=Jl ds
 |[]=>rfl
 |d::ds=>by
  have a:=Gg ds;grind[Jl]
variable{cs:Ja}{a n:Nat}
theorem Yz:2<=C5:=by unfold C5;omega
def Gh:C5<O:=by unfold C5 O;omega
theorem Xa.chunk{a:Ja}{l rest:Nat}{q:Ja}(h:Xa a l C5 l rest q)(f:a.take l=Jb O n):
 rest=n%C5/\Jl q=Jb O (n/C5):=by
 obtain⟨b,c,d,e⟩:=h;grind[O,Je,Nat.add_mul_div_right,AE,Nat.add_mul_mod_self_right,A1,JE]
def Xc(a:Nat)(cs:Ja)(n:Nat):Prop:=cs++Jb C5 n=Jb C5 a
def Xc.start(a:Nat):Xc a [] a:=rfl
theorem Xc.step(h:Xc a cs n)(b:n≠0):Xc a (cs++[n%C5]) (n/C5):=by
 grind[Xc,Yp,Yz]
theorem Xc.done(h:Xc a cs 0):cs=Jb C5 a:=by
 grind[Xc,Jn]
def Xc.length{a:Nat}{cs:Ja}{n:Nat}(h:Xc a cs n):cs.length<=(Jb C5 a).length:=by
 rw[<-h,AP];omega
def X7{len:Nat}(h:(Jb O n).length<=len):(Jb C5 n).length<=2*len:=by
 refine Jt Yz ?_;have a:2<=O:=by unfold O;omega
 have c:n<O^(Jb O n).length:=by
  have:=JJ (Jf a n);rwa[Je a]at this
 have d:O^(Jb O n).length<=O^len:=Am Y h;have b:O^len<=(C5^2)^len:=Ci (by unfold O C5;decide) len;rw[<-Nat.pow_mul]at b;omega
def LO(h:n≠0):JC (Jb C5 n)=J6 n:=by
 have a:=Je Yz n;rw[Is ?_ (Jf Yz n) (JM Yz n),a];intro e;rw[e]at a;exact h a.symm
