import Derived.Test.YtcahejkcdcjjgaaGreatDoorT07
import Derived.Test.YtcahejkcdcjjgaaGreatDoorT18
set_option linter.all false
set_option maxRecDepth 99999
set_option maxHeartbeats 0
namespace Go.Proofs.YtcahejkcdcjjgaaGreatDoor
open Go.RowKit Go.Shelf
theorem LS:∀(ds:Ja),ds.take (Jq ds).length=Jq ds
 |[]=>rfl
 |d::ds=>by
  have a:=LS ds;grind[Jq]
variable{cs:Ja}{a n:Nat}
theorem YX:2<=DS:=by unfold DS;omega
def LT:DS<O:=by unfold DS O;omega
theorem XO.chunk{a:Ja}{l rest:Nat}{q:Ja}(h:XO a l DS l rest q)(f:a.take l=Jb O n):
 rest=n%DS/\Jq q=Jb O (n/DS):=by
 obtain⟨b,c,d,e⟩:=h;grind[O,Jj,Nat.add_mul_div_right,AQ,Nat.add_mul_mod_self_right,Cc,JN]
def XP(a:Nat)(cs:Ja)(n:Nat):Prop:=cs++Jb DS n=Jb DS a
def XP.start(a:Nat):XP a [] a:=rfl
theorem XP.step(h:XP a cs n)(b:n≠0):XP a (cs++[n%DS]) (n/DS):=by
 grind[XP,YK,YX]
theorem XP.done(h:XP a cs 0):cs=Jb DS a:=by
 grind[XP,Js]
def XP.length{a:Nat}{cs:Ja}{n:Nat}(h:XP a cs n):cs.length<=(Jb DS a).length:=by
 rw[<-h,At];omega
def LU{len:Nat}(h:(Jb O n).length<=len):(Jb DS n).length<=2*len:=by
 refine Jz YX ?_;have a:2<=O:=by unfold O;omega
 have c:n<O^(Jb O n).length:=by
  have:=JW (Ji a n);rwa[Jj a]at this
 have d:O^(Jb O n).length<=O^len:=Am Y h;have b:O^len<=(DS^2)^len:=CJ (by unfold O DS;decide) len;rw[<-Nat.pow_mul]at b;omega
def Pa(h:n≠0):JG (Jb DS n)=Yz n:=by
 have a:=Jj YX n;rw[OG ?_ (Ji YX n) (JX YX n),a];intro e;rw[e]at a;exact h a.symm
