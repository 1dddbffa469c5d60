import Derived.Test.YteldjhhjnchdeaaGreatDoorU07
import Derived.Test.YteldjhhjnchdeaaGreatDoorU18
set_option maxRecDepth 100000
set_option maxHeartbeats 16000000
namespace Go.Proofs.YteldjhhjnchdeaaGreatDoor
open Go.RowKit Go.Shelf
theorem P2:∀(ds:List Nat),ds.take (Jy ds).length=Jy ds
 |[]=>rfl
 |d::ds=>by
  have a:=P2 ds;rw[Jy];generalize Jy ds=l at a ⊢;cases l with
  |nil=>by_cases h:d=0<;>simp[h]
  |cons e b=>simpa using a
variable{cs:List Nat}{a n:Nat}
theorem XF:2<=Ds:=by unfold Ds;omega
theorem P3:Ds<Z:=by unfold Ds Z;omega
theorem F5.chunk{d:List Nat}{l rest:Nat}{q:List Nat}(h:F5 d l Ds l rest q)(g:d.take l=Jc Z n):
 rest=n%Ds/\Jy q=Jc Z (n/Ds):=by
 obtain⟨i,e,b,a⟩:=h;have c:2<=Z:=by unfold Z;omega
 rw[A3,AE,g,Jp c]at a;have f:val Z q=n/Ds:=by
  rw[<-a,C1,FG _ _ (by have:=XF;omega),Ca b,A8]
 refine⟨?_,?_⟩
 . rw[<-a,C1,Nat.add_mul_mod_self_right,Cm b]
 . rw[<-J9 c e,f]
def F6(a:Nat)(cs:List Nat)(n:Nat):Prop:=cs++Jc Ds n=Jc Ds a
theorem F6.start(a:Nat):F6 a [] a:=rfl
theorem F6.step(h:F6 a cs n)(b:n≠0):F6 a (cs++[n%Ds]) (n/Ds):=by
 unfold F6 at h ⊢;rw[XR XF b]at h;rw[Ce];exact h
theorem F6.done(h:F6 a cs 0):cs=Jc Ds a:=by
 unfold F6 at h;rw[Jz,Cl]at h;exact h
theorem F6.length{a:Nat}{cs:List Nat}{n:Nat}(h:F6 a cs n):cs.length<=(Jc Ds a).length:=by
 rw[<-h,Ai];omega
theorem P4{len:Nat}(h:(Jc Z n).length<=len):(Jc Ds n).length<=2*len:=by
 refine JK XF ?_;have a:2<=Z:=by unfold Z;omega
 have c:n<Z^(Jc Z n).length:=by
  have:=Yl (Jq a n);rwa[Jp a]at this
 have d:Z^(Jc Z n).length<=Z^len:=Aw J h;have b:Z^len<=(Ds^2)^len:=CS (by unfold Z Ds;decide) len;rw[<-FJ]at b;omega
theorem WX(h:n≠0):JO (Jc Ds n)=Xu n:=by
 have a:=Jp XF n;rw[U7 ?_ (Jq XF n) (Ym XF n),a];intro e;rw[e]at a;exact h a.symm
