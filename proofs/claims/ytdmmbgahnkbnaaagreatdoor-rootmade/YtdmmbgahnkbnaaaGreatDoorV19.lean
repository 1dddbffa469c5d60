import Derived.Test.YtdmmbgahnkbnaaaGreatDoorV07
import Derived.Test.YtdmmbgahnkbnaaaGreatDoorV18
set_option linter.all false
set_option maxRecDepth 99999
set_option maxHeartbeats 0
namespace Go.Proofs.YtdmmbgahnkbnaaaGreatDoor
open Go.RowKit Go.Shelf
theorem UF:∀(ds:List Nat),ds.take (J3 ds).length=J3 ds
 |[]=>rfl
 |d::ds=>by
  have a:=UF ds;grind[J3]
variable{cs:List Nat}{a n:Nat}
theorem Hh:2<=Do:=by unfold Do;omega
def UG:Do<Y:=by unfold Do Y;omega
theorem GO.chunk{zs:List Nat}{l rest:Nat}{q:List Nat}(h:GO zs l Do l rest q)(e:zs.take l=Jh Y n):
 rest=n%Do/\J3 q=Jh Y (n/Do):=by
 obtain⟨a,b,c,d⟩:=h;grind[Y,Jz,Nat.add_mul_div_right,Cn,Nat.add_mul_mod_self_right,Cr,YK]
def GP(a:Nat)(cs:List Nat)(n:Nat):Prop:=cs++Jh Do n=Jh Do a
def GP.start(a:Nat):GP a [] a:=rfl
theorem GP.step(h:GP a cs n)(hn:n≠0):GP a (cs++[n%Do]) (n/Do):=by
 grind[GP,Iz,Hh]
theorem GP.done(h:GP a cs 0):cs=Jh Do a:=by
 grind[GP,JW]
def GP.length{a:Nat}{cs:List Nat}{n:Nat}(h:GP a cs n):cs.length<=(Jh Do a).length:=by
 rw[<-h,Am];omega
def UH{len:Nat}(h:(Jh Y n).length<=len):(Jh Do n).length<=2*len:=by
 refine Yr Hh ?_;have a:2<=Y:=by unfold Y;omega
 have c:n<Y^(Jh Y n).length:=by
  have:=Y4 (JA a n);rwa[Jz a]at this
 have d:Y^(Jh Y n).length<=Y^len:=AE O h;have b:Y^len<=(Do^2)^len:=CG (by unfold Y Do;decide) len;rw[<-Fu]at b;omega
def gU(h:n≠0):J7 (Jh Do n)=YY n:=by
 have hv:=Jz Hh n;rw[eD ?_ (JA Hh n) (I0 Hh n),hv];intro e;rw[e]at hv;exact h hv.symm
