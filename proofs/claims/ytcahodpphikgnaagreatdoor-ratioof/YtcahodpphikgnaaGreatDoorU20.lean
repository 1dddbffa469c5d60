import Derived.Test.YtcahodpphikgnaaGreatDoorU06
import Derived.Test.YtcahodpphikgnaaGreatDoorU19
set_option linter.all false
set_option maxRecDepth 99999
set_option maxHeartbeats 0
namespace Go.Proofs.YtcahodpphikgnaaGreatDoor
open Go.RowKit Go.Shelf
theorem F1:∀(ds:Ja),ds.take (Ji ds).length=Ji ds
 |[]=>rfl
 |d::ds=>by
  have a:=F1 ds;grind[Ji]
variable{cs:Ja}{a n:Nat}
theorem Yt:2<=CU:=by unfold CU;omega
def F2:CU<O:=by unfold CU O;omega
theorem Y0.chunk{a:Ja}{l rest:Nat}{q:Ja}(h:Y0 a l CU l rest q)(f:a.take l=Jb O n):
 rest=n%CU/\Ji q=Jb O (n/CU):=by
 obtain⟨b,c,d,e⟩:=h;grind[O,Je,Nat.add_mul_div_right,AC,Nat.add_mul_mod_self_right,AX,JA]
def Y2(a:Nat)(cs:Ja)(n:Nat):Prop:=cs++Jb CU n=Jb CU a
def Y2.start(a:Nat):Y2 a [] a:=rfl
theorem Y2.step(h:Y2 a cs n)(b:n≠0):Y2 a (cs++[n%CU]) (n/CU):=by
 grind[Y2,Yj,Yt]
theorem Y2.done(h:Y2 a cs 0):cs=Jb CU a:=by
 grind[Y2,Jn]
def Y2.length{a:Nat}{cs:Ja}{n:Nat}(h:Y2 a cs n):cs.length<=(Jb CU a).length:=by
 rw[<-h,AM];omega
def XT{len:Nat}(h:(Jb O n).length<=len):(Jb CU n).length<=2*len:=by
 refine JD Yt ?_;have a:2<=O:=by unfold O;omega
 have c:n<O^(Jb O n).length:=by
  have:=JI (Jf a n);rwa[Je a]at this
 have d:O^(Jb O n).length<=O^len:=Ak Y h;have b:O^len<=(CU^2)^len:=Cz (by unfold O CU;decide) len;rw[<-Nat.pow_mul]at b;omega
def Ka(h:n≠0):Jw (Jb CU n)=Xq n:=by
 have a:=Je Yt n;rw[Hy ?_ (Jf Yt n) (JJ Yt n),a];intro e;rw[e]at a;exact h a.symm
