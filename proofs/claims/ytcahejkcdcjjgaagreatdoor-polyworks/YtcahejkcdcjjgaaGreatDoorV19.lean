import Derived.Test.YtcahejkcdcjjgaaGreatDoorV07
import Derived.Test.YtcahejkcdcjjgaaGreatDoorV18
set_option linter.all false
set_option maxRecDepth 99999
set_option maxHeartbeats 0
namespace Go.Proofs.YtcahejkcdcjjgaaGreatDoor
open Go.RowKit Go.Shelf
theorem Mm:∀(ds:Ja),ds.take (Jr ds).length=Jr ds
 |[]=>rfl
 |d::ds=>by
  have a:=Mm ds;grind[Jr]
variable{cs:Ja}{a n:Nat}
theorem Xj:2<=Dd:=by unfold Dd;omega
def Mn:Dd<Y:=by unfold Dd Y;omega
theorem EC.chunk{a:Ja}{l rest:Nat}{q:Ja}(h:EC a l Dd l rest q)(f:a.take l=Jb Y n):
 rest=n%Dd/\Jr q=Jb Y (n/Dd):=by
 obtain⟨b,c,d,e⟩:=h;grind[Y,Jk,Nat.add_mul_div_right,AV,Nat.add_mul_mod_self_right,Ce,JP]
def EE(a:Nat)(cs:Ja)(n:Nat):Prop:=cs++Jb Dd n=Jb Dd a
def EE.start(a:Nat):EE a [] a:=rfl
theorem EE.step(h:EE a cs n)(b:n≠0):EE a (cs++[n%Dd]) (n/Dd):=by
 grind[EE,Y4,Xj]
theorem EE.done(h:EE a cs 0):cs=Jb Dd a:=by
 grind[EE,Jw]
def EE.length{a:Nat}{cs:Ja}{n:Nat}(h:EE a cs n):cs.length<=(Jb Dd a).length:=by
 rw[<-h,Ay];omega
def Mo{len:Nat}(h:(Jb Y n).length<=len):(Jb Dd n).length<=2*len:=by
 refine JE Xj ?_;have a:2<=Y:=by unfold Y;omega
 have c:n<Y^(Jb Y n).length:=by
  have:=J1 (Jj a n);rwa[Jk a]at this
 have d:Y^(Jb Y n).length<=Y^len:=Ag O h;have b:Y^len<=(Dd^2)^len:=CM (by unfold Y Dd;decide) len;rw[<-Nat.pow_mul]at b;omega
def Rf(h:n≠0):JJ (Jb Dd n)=YP n:=by
 have a:=Jk Xj n;rw[Pt ?_ (Jj Xj n) (J4 Xj n),a];intro e;rw[e]at a;exact h a.symm
