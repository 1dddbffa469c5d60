import Derived.Test.YtdmmbgahnkbnaaaGreatDoorT07
import Derived.Test.YtdmmbgahnkbnaaaGreatDoorT18
set_option linter.all false
set_option maxRecDepth 99999
set_option maxHeartbeats 0
namespace Go.Proofs.YtdmmbgahnkbnaaaGreatDoor
open Go.RowKit Go.Shelf
theorem Tu:∀(ds:List Nat),ds.take (J2 ds).length=J2 ds
 |[]=>rfl
 |d::ds=>by
  have a:=Tu ds;grind[J2]
variable{cs:List Nat}{a n:Nat}
theorem Hh:2<=Ds:=by unfold Ds;omega
def Tv:Ds<Y:=by unfold Ds Y;omega
def GN.chunk{zs:List Nat}{l rest:Nat}{q:List Nat}(h:GN zs l Ds l rest q)(e:zs.take l=Jh Y n):
 rest=n%Ds/\J2 q=Jh Y (n/Ds):=by
 obtain⟨a,b,c,d⟩:=h;grind[Y,JA,Nat.add_mul_div_right,Ct,Nat.add_mul_mod_self_right,Cx,YJ]
def GO(a:Nat)(cs:List Nat)(n:Nat):Prop:=cs++Jh Ds n=Jh Ds a
def GO.start(a:Nat):GO a [] a:=rfl
def GO.step(h:GO a cs n)(hn:n≠0):GO a (cs++[n%Ds]) (n/Ds):=by
 grind[GO,Ix,Hh]
def GO.done(h:GO a cs 0):cs=Jh Ds a:=by
 grind[GO,JV]
def GO.length{a:Nat}{cs:List Nat}{n:Nat}(h:GO a cs n):cs.length<=(Jh Ds a).length:=by
 rw[<-h,Aw];omega
def Tw{len:Nat}(h:(Jh Y n).length<=len):(Jh Ds n).length<=2*len:=by
 refine Yq Hh ?_;have a:2<=Y:=by unfold Y;omega
 have c:n<Y^(Jh Y n).length:=by
  have:=YS (Jy a n);rwa[JA a]at this
 have d:Y^(Jh Y n).length<=Y^len:=AC O h;have b:Y^len<=(Ds^2)^len:=CG (by unfold Y Ds;decide) len;rw[<-Fg]at b;omega
def iB(h:n≠0):J7 (Jh Ds n)=X7 n:=by
 have hv:=JA Hh n;rw[eL ?_ (Jy Hh n) (Iy Hh n),hv];intro e;rw[e]at hv;exact h hv.symm
