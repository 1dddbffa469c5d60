import Derived.Test.YtcahodpphikgnaaGreatDoorV06
import Derived.Test.YtcahodpphikgnaaGreatDoorV19
set_option linter.all false
set_option maxRecDepth 99999
set_option maxHeartbeats 0
namespace Go.Proofs.YtcahodpphikgnaaGreatDoor
open Go.RowKit Go.Shelf
theorem Hu:∀(ds:Ja),ds.take (Jl ds).length=Jl ds
 |[]=>rfl
 |d::ds=>by
  have a:=Hu ds;grind[Jl]
variable{cs:Ja}{a n:Nat}
theorem YD:2<=C1:=by unfold C1;omega
def Hv:C1<O:=by unfold C1 O;omega
theorem Xb.chunk{a:Ja}{l rest:Nat}{q:Ja}(h:Xb a l C1 l rest q)(f:a.take l=Jb O n):
 rest=n%C1/\Jl q=Jb O (n/C1):=by
 obtain⟨b,c,d,e⟩:=h;grind[O,Je,Nat.add_mul_div_right,AE,Nat.add_mul_mod_self_right,AZ,JC]
def Xd(a:Nat)(cs:Ja)(n:Nat):Prop:=cs++Jb C1 n=Jb C1 a
def Xd.start(a:Nat):Xd a [] a:=rfl
theorem Xd.step(h:Xd a cs n)(b:n≠0):Xd a (cs++[n%C1]) (n/C1):=by
 grind[Xd,Ys,YD]
theorem Xd.done(h:Xd a cs 0):cs=Jb C1 a:=by
 grind[Xd,Jq]
def Xd.length{a:Nat}{cs:Ja}{n:Nat}(h:Xd a cs n):cs.length<=(Jb C1 a).length:=by
 rw[<-h,AN];omega
def X4{len:Nat}(h:(Jb O n).length<=len):(Jb C1 n).length<=2*len:=by
 refine JG YD ?_;have a:2<=O:=by unfold O;omega
 have c:n<O^(Jb O n).length:=by
  have:=JL (Jf a n);rwa[Je a]at this
 have d:O^(Jb O n).length<=O^len:=Al Y h;have b:O^len<=(C1^2)^len:=CA (by unfold O C1;decide) len;rw[<-Nat.pow_mul]at b;omega
def MF(h:n≠0):JA (Jb C1 n)=XE n:=by
 have a:=Je YD n;rw[Ki ?_ (Jf YD n) (JM YD n),a];intro e;rw[e]at a;exact h a.symm
