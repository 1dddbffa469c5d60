import Derived.Test.YtcahodpphikgnaaGreatDoorW06
import Derived.Test.YtcahodpphikgnaaGreatDoorW19
set_option linter.all false
set_option maxRecDepth 99999
set_option maxHeartbeats 0
namespace Go.Proofs.YtcahodpphikgnaaGreatDoor
open Go.RowKit Go.Shelf
theorem Fb:∀(ds:Y),ds.take (Jr ds).length=Jr ds
 |[]=>rfl
 |d::ds=>by
  have ih:=Fb ds;grind[Jr]
theorem Yf:2≤Br:=by unfold Br;omega
def Fc:Br<O:=by unfold Br O;omega
def YK.chunk{zs:Y}{l n rest:Nat}{q:Y}(h:YK zs l Br l rest q)(hz:zs.take l=Jc O n):
 rest=n%Br∧Jr q=Jc O (n/Br):=by
 obtain⟨h1,h2,h3,h4⟩:=h;grind[O,Jg,Nat.add_mul_div_right,AL,Nat.add_mul_mod_self_right,AU,JF]
def YM(n0:Nat)(cs:Y)(n:Nat):Prop:=cs++Jc Br n=Jc Br n0
def YM.start(n0:Nat):YM n0 [] n0:=rfl
def YM.step{n0:Nat}{cs:Y}{n:Nat}(h:YM n0 cs n)(hn:n≠0):YM n0 (cs++[n%Br]) (n/Br):=by
 grind[YM,J5,Yf]
def YM.done{n0:Nat}{cs:Y}(h:YM n0 cs 0):cs=Jc Br n0:=by
 grind[YM,Jp]
def YM.length{n0:Nat}{cs:Y}{n:Nat}(h:YM n0 cs n):cs.length≤(Jc Br n0).length:=by
 rw[←h,Ar];omega
def XE{n len:Nat}(h:(Jc O n).length≤len):(Jc Br n).length≤2*len:=by
 refine JA Yf ?_;have hB:2≤O:=by unfold O;omega
 have h1:n<O^(Jc O n).length:=by
  have:=JN (Jh hB n);rwa[Jg hB]at this
 have h2:O^(Jc O n).length≤O^len:=Ap (by omega) h;have h3:O^len≤(Br^2)^len:=Cp (by unfold O Br;decide) len;rw[←Nat.pow_mul]at h3;omega
def I4{n:Nat}(h:n≠0):Jt (Jc Br n)=JE n:=by
 have hv:=Jg Yf n;rw[Gy ?_ (Jh Yf n) (J6 Yf n),hv];intro e;rw[e]at hv;exact h hv.symm
