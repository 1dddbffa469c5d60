import Derived.Test.YtcahejkcdcjjgaaGreatDoorU07
import Derived.Test.YtcahejkcdcjjgaaGreatDoorU18
set_option linter.all false
set_option maxRecDepth 99999
set_option maxHeartbeats 0
namespace Go.Proofs.YtcahejkcdcjjgaaGreatDoor
open Go.RowKit Go.Shelf
theorem Lf:∀(ds:Ta),ds.take (Jq ds).length=Jq ds
 |[]=>rfl
 |d::ds=>by
  have a:=Lf ds;grind[Jq]
variable{cs:Ta}{a n:Nat}
theorem Y1:2<=DN:=by unfold DN;omega
def Lg:DN<O:=by unfold DN O;omega
theorem XR.chunk{a:Ta}{l rest:Nat}{q:Ta}(h:XR a l DN l rest q)(f:a.take l=Jb O n):
 rest=n%DN/\Jq q=Jb O (n/DN):=by
 obtain⟨b,c,d,e⟩:=h;grind[O,Jj,Nat.add_mul_div_right,AY,Nat.add_mul_mod_self_right,Ca,JM]
def XS(a:Nat)(cs:Ta)(n:Nat):Prop:=cs++Jb DN n=Jb DN a
def XS.start(a:Nat):XS a [] a:=rfl
theorem XS.step(h:XS a cs n)(b:n≠0):XS a (cs++[n%DN]) (n/DN):=by
 grind[XS,YR,Y1]
theorem XS.done(h:XS a cs 0):cs=Jb DN a:=by
 grind[XS,Jy]
def XS.length{a:Nat}{cs:Ta}{n:Nat}(h:XS a cs n):cs.length<=(Jb DN a).length:=by
 rw[<-h,As];omega
def Lh{len:Nat}(h:(Jb O n).length<=len):(Jb DN n).length<=2*len:=by
 refine JE Y1 ?_;have a:2<=O:=by unfold O;omega
 have c:n<O^(Jb O n).length:=by
  have:=JV (Ji a n);rwa[Jj a]at this
 have d:O^(Jb O n).length<=O^len:=Al Y h;have b:O^len<=(DN^2)^len:=CL (by unfold O DN;decide) len;rw[<-Nat.pow_mul]at b;omega
def Pn(h:n≠0):JH (Jb DN n)=J8 n:=by
 have a:=Jj Y1 n;rw[OV ?_ (Ji Y1 n) (JY Y1 n),a];intro e;rw[e]at a;exact h a.symm
