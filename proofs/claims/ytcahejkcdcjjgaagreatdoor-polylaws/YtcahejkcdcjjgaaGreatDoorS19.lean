import Derived.Test.YtcahejkcdcjjgaaGreatDoorS07
import Derived.Test.YtcahejkcdcjjgaaGreatDoorS18
set_option linter.all false
set_option maxRecDepth 99999
set_option maxHeartbeats 0
namespace Go.Proofs.YtcahejkcdcjjgaaGreatDoor
open Go.RowKit Go.Shelf
theorem NX:∀(ds:U),ds.take (Jw ds).length=Jw ds
 |[]=>rfl
 |d::ds=>by
  have a:=NX ds;grind[Jw]
variable{cs:U}{a n:Nat}
theorem Y2:2<=Dk:=by unfold Dk;omega
def NZ:Dk<O:=by unfold Dk O;omega
theorem XW.chunk{a:U}{l rest:Nat}{q:U}(h:XW a l Dk l rest q)(f:a.take l=Jc O n):
 rest=n%Dk/\Jw q=Jc O (n/Dk):=by
 obtain⟨b,c,d,e⟩:=h;grind[O,Jl,Nat.add_mul_div_right,A6,Nat.add_mul_mod_self_right,Cf,JP]
def XX(a:Nat)(cs:U)(n:Nat):Prop:=cs++Jc Dk n=Jc Dk a
def XX.start(a:Nat):XX a [] a:=rfl
theorem XX.step(h:XX a cs n)(b:n≠0):XX a (cs++[n%Dk]) (n/Dk):=by
 grind[XX,YQ,Y2]
theorem XX.done(h:XX a cs 0):cs=Jc Dk a:=by
 grind[XX,Jz]
def XX.length{a:Nat}{cs:U}{n:Nat}(h:XX a cs n):cs.length<=(Jc Dk a).length:=by
 rw[<-h,AV];omega
def Na{len:Nat}(h:(Jc O n).length<=len):(Jc Dk n).length<=2*len:=by
 refine JL Y2 ?_;have a:2<=O:=by unfold O;omega
 have c:n<O^(Jc O n).length:=by
  have:=JY (Jm a n);rwa[Jl a]at this
 have d:O^(Jc O n).length<=O^len:=Am Z h;have b:O^len<=(Dk^2)^len:=CM (by unfold O Dk;decide) len;rw[<-Nat.pow_mul]at b;omega
def SB(h:n≠0):JG (Jc Dk n)=Xw n:=by
 have a:=Jl Y2 n;rw[QP ?_ (Jm Y2 n) (YR Y2 n),a];intro e;rw[e]at a;exact h a.symm
