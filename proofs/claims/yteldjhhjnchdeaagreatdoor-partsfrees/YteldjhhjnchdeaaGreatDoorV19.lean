import Derived.Test.YteldjhhjnchdeaaGreatDoorV07
import Derived.Test.YteldjhhjnchdeaaGreatDoorV18
set_option maxRecDepth 100000
set_option maxHeartbeats 16000000
namespace Go.Proofs.YteldjhhjnchdeaaGreatDoor
open Go.RowKit Go.Shelf
theorem P1:∀(ds:List Nat),ds.take (Jy ds).length=Jy ds
 |[]=>rfl
 |d::ds=>by
  have a:=P1 ds;rw[Jy];generalize Jy ds=l at a ⊢;cases l with
  |nil=>by_cases h:d=0<;>simp[h]
  |cons e b=>simpa using a
variable{cs:List Nat}{n n0:Nat}
theorem Xz:2<=Dw:=by unfold Dw;omega
theorem P2:Dw<Z:=by unfold Dw Z;omega
theorem F7.chunk{d:List Nat}{l rest:Nat}{q:List Nat}(h:F7 d l Dw l rest q)(g:d.take l=Jc Z n):
 rest=n%Dw/\Jy q=Jc Z (n/Dw):=by
 obtain⟨i,e,b,a⟩:=h;have c:2<=Z:=by unfold Z;omega
 rw[A3,AE,g,Jo c]at a;have f:val Z q=n/Dw:=by
  rw[<-a,C0,FF _ _ (by have:=Xz;omega),Cb b,A8]
 refine⟨?_,?_⟩
 . rw[<-a,C0,Nat.add_mul_mod_self_right,Cm b]
 . rw[<-J9 c e,f]
def F8(n0:Nat)(cs:List Nat)(n:Nat):Prop:=cs++Jc Dw n=Jc Dw n0
theorem F8.start(n0:Nat):F8 n0 [] n0:=rfl
theorem F8.step(h:F8 n0 cs n)(a:n≠0):F8 n0 (cs++[n%Dw]) (n/Dw):=by
 unfold F8 at h ⊢;rw[XK Xz a]at h;rw[Cf];exact h
theorem F8.done(h:F8 n0 cs 0):cs=Jc Dw n0:=by
 unfold F8 at h;rw[Jz,Cl]at h;exact h
theorem F8.length{n0:Nat}{cs:List Nat}{n:Nat}(h:F8 n0 cs n):cs.length<=(Jc Dw n0).length:=by
 rw[<-h,Ai];omega
theorem P3{len:Nat}(h:(Jc Z n).length<=len):(Jc Dw n).length<=2*len:=by
 refine JK Xz ?_;have a:2<=Z:=by unfold Z;omega
 have c:n<Z^(Jc Z n).length:=by
  have:=Yh (Jp a n);rwa[Jo a]at this
 have d:Z^(Jc Z n).length<=Z^len:=Aw Y h;have b:Z^len<=(Dw^2)^len:=CR (by unfold Z Dw;decide) len;rw[<-FI]at b;omega
theorem WO(h:n≠0):JN (Jc Dw n)=Xp n:=by
 have a:=Jo Xz n;rw[UZ ?_ (Jp Xz n) (Yj Xz n),a];intro e;rw[e]at a;exact h a.symm
