import Derived.Test.YtcahejkcdcjjgaaGreatDoorQ07
import Derived.Test.YtcahejkcdcjjgaaGreatDoorQ18
set_option linter.all false
set_option maxRecDepth 99999
set_option maxHeartbeats 0
namespace Go.Proofs.YtcahejkcdcjjgaaGreatDoor
open Go.RowKit Go.Shelf
theorem LK:∀(ds:Ja),ds.take (Jp ds).length=Jp ds
 |[]=>rfl
 |d::ds=>by
  have a:=LK ds;grind[Jp]
variable{cs:Ja}{a n:Nat}
theorem YY:2<=DV:=by unfold DV;omega
def LL:DV<Y:=by unfold DV Y;omega
theorem XP.chunk{a:Ja}{l rest:Nat}{q:Ja}(h:XP a l DV l rest q)(f:a.take l=Jb Y n):
 rest=n%DV/\Jp q=Jb Y (n/DV):=by
 obtain⟨b,c,d,e⟩:=h;grind[Y,Ji,Nat.add_mul_div_right,AV,Nat.add_mul_mod_self_right,Cb,JN]
def XQ(a:Nat)(cs:Ja)(n:Nat):Prop:=cs++Jb DV n=Jb DV a
def XQ.start(a:Nat):XQ a [] a:=rfl
theorem XQ.step(h:XQ a cs n)(b:n≠0):XQ a (cs++[n%DV]) (n/DV):=by
 grind[XQ,YI,YY]
theorem XQ.done(h:XQ a cs 0):cs=Jb DV a:=by
 grind[XQ,Js]
def XQ.length{a:Nat}{cs:Ja}{n:Nat}(h:XQ a cs n):cs.length<=(Jb DV a).length:=by
 rw[<-h,AE];omega
def LM{len:Nat}(h:(Jb Y n).length<=len):(Jb DV n).length<=2*len:=by
 refine Jw YY ?_;have a:2<=Y:=by unfold Y;omega
 have c:n<Y^(Jb Y n).length:=by
  have:=JS (Jh a n);rwa[Ji a]at this
 have d:Y^(Jb Y n).length<=Y^len:=Ap O h;have b:Y^len<=(DV^2)^len:=CL (by unfold Y DV;decide) len;rw[<-Nat.pow_mul]at b;omega
def PR(h:n≠0):JH (Jb DV n)=Yv n:=by
 have a:=Ji YY n;rw[N8 ?_ (Jh YY n) (JT YY n),a];intro e;rw[e]at a;exact h a.symm
