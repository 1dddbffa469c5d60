import Derived.Test.YtcahejkcdcjjgaaGreatDoorW07
import Derived.Test.YtcahejkcdcjjgaaGreatDoorW18
set_option linter.all false
set_option maxRecDepth 99999
set_option maxHeartbeats 0
namespace Go.Proofs.YtcahejkcdcjjgaaGreatDoor
open Go.RowKit Go.Shelf
theorem Nn:∀(ds:Ja),ds.take (Js ds).length=Js ds
 |[]=>rfl
 |d::ds=>by
  have a:=Nn ds;grind[Js]
variable{cs:Ja}{a n:Nat}
theorem Xp:2<=Df:=by unfold Df;omega
def Np:Df<Y:=by unfold Df Y;omega
theorem ET.chunk{a:Ja}{l rest:Nat}{q:Ja}(h:ET a l Df l rest q)(f:a.take l=Jb Y n):
 rest=n%Df/\Js q=Jb Y (n/Df):=by
 obtain⟨b,c,d,e⟩:=h;grind[Y,Jn,Nat.add_mul_div_right,A3,Nat.add_mul_mod_self_right,Cf,JQ]
def EU(a:Nat)(cs:Ja)(n:Nat):Prop:=cs++Jb Df n=Jb Df a
def EU.start(a:Nat):EU a [] a:=rfl
theorem EU.step(h:EU a cs n)(b:n≠0):EU a (cs++[n%Df]) (n/Df):=by
 grind[EU,Xd,Xp]
theorem EU.done(h:EU a cs 0):cs=Jb Df a:=by
 grind[EU,Jv]
def EU.length{a:Nat}{cs:Ja}{n:Nat}(h:EU a cs n):cs.length<=(Jb Df a).length:=by
 rw[<-h,AE];omega
def Nq{len:Nat}(h:(Jb Y n).length<=len):(Jb Df n).length<=2*len:=by
 refine JE Xp ?_;have a:2<=Y:=by unfold Y;omega
 have c:n<Y^(Jb Y n).length:=by
  have:=J7 (Jm a n);rwa[Jn a]at this
 have d:Y^(Jb Y n).length<=Y^len:=Au O h;have b:Y^len<=(Df^2)^len:=CS (by unfold Y Df;decide) len;rw[<-Nat.pow_mul]at b;omega
def Sf(h:n≠0):JL (Jb Df n)=Y0 n:=by
 have a:=Jn Xp n;rw[RI ?_ (Jm Xp n) (J8 Xp n),a];intro e;rw[e]at a;exact h a.symm
