import Derived.Test.YtdmmbgahnkbnaaaGreatDoorU07
import Derived.Test.YtdmmbgahnkbnaaaGreatDoorU18
set_option linter.all false
set_option maxRecDepth 99999
set_option maxHeartbeats 0
namespace Go.Proofs.YtdmmbgahnkbnaaaGreatDoor
open Go.RowKit Go.Shelf
theorem TX:∀(ds:List Nat),ds.take (J1 ds).length=J1 ds
 |[]=>rfl
 |d::ds=>by
  have a:=TX ds;grind[J1]
variable{cs:List Nat}{a n:Nat}
theorem Hd:2<=Dm:=by unfold Dm;omega
def TY:Dm<Y:=by unfold Dm Y;omega
theorem GI.chunk{zs:List Nat}{l rest:Nat}{q:List Nat}(h:GI zs l Dm l rest q)(e:zs.take l=Jh Y n):
 rest=n%Dm/\J1 q=Jh Y (n/Dm):=by
 obtain⟨a,b,c,d⟩:=h;grind[Y,Jy,Nat.add_mul_div_right,Cm,Nat.add_mul_mod_self_right,Ct,YJ]
def GJ(a:Nat)(cs:List Nat)(n:Nat):Prop:=cs++Jh Dm n=Jh Dm a
def GJ.start(a:Nat):GJ a [] a:=rfl
theorem GJ.step(h:GJ a cs n)(hn:n≠0):GJ a (cs++[n%Dm]) (n/Dm):=by
 grind[GJ,Ir,Hd]
theorem GJ.done(h:GJ a cs 0):cs=Jh Dm a:=by
 grind[GJ,JV]
def GJ.length{a:Nat}{cs:List Nat}{n:Nat}(h:GJ a cs n):cs.length<=(Jh Dm a).length:=by
 rw[<-h,Aw];omega
def TZ{len:Nat}(h:(Jh Y n).length<=len):(Jh Dm n).length<=2*len:=by
 refine Ya Hd ?_;have a:2<=Y:=by unfold Y;omega
 have c:n<Y^(Jh Y n).length:=by
  have:=YR (Jv a n);rwa[Jy a]at this
 have d:Y^(Jh Y n).length<=Y^len:=An O h;have b:Y^len<=(Dm^2)^len:=Cy (by unfold Y Dm;decide) len;rw[<-C5]at b;omega
def fY(h:n≠0):J5 (Jh Dm n)=Yz n:=by
 have hv:=Jy Hd n;rw[dP ?_ (Jv Hd n) (Is Hd n),hv];intro e;rw[e]at hv;exact h hv.symm
