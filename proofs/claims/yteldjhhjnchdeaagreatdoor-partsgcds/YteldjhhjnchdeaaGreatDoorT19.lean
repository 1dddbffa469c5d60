import Derived.Test.YteldjhhjnchdeaaGreatDoorT07
import Derived.Test.YteldjhhjnchdeaaGreatDoorT18
set_option maxRecDepth 100000
set_option maxHeartbeats 16000000
namespace Go.Proofs.YteldjhhjnchdeaaGreatDoor
open Go.RowKit Go.Shelf
theorem P3:∀(ds:List Nat),ds.take (Jy ds).length=Jy ds
 |[]=>rfl
 |d::ds=>by
  have a:=P3 ds;rw[Jy];generalize Jy ds=l at a ⊢;cases l with
  |nil=>by_cases h:d=0<;>simp[h]
  |cons e b=>simpa using a
variable{cs:List Nat}{a n:Nat}
theorem XF:2<=Dq:=by unfold Dq;omega
theorem P4:Dq<Z:=by unfold Dq Z;omega
theorem F5.chunk{d:List Nat}{l rest:Nat}{q:List Nat}(h:F5 d l Dq l rest q)(g:d.take l=Jc Z n):
 rest=n%Dq/\Jy q=Jc Z (n/Dq):=by
 obtain⟨i,e,b,a⟩:=h;have c:2<=Z:=by unfold Z;omega
 rw[A3,AE,g,Jo c]at a;have f:val Z q=n/Dq:=by
  rw[<-a,C0,FG _ _ (by have:=XF;omega),Ca b,A8]
 refine⟨?_,?_⟩
 . rw[<-a,C0,Nat.add_mul_mod_self_right,Cm b]
 . rw[<-J8 c e,f]
def F6(a:Nat)(cs:List Nat)(n:Nat):Prop:=cs++Jc Dq n=Jc Dq a
theorem F6.start(a:Nat):F6 a [] a:=rfl
theorem F6.step(h:F6 a cs n)(b:n≠0):F6 a (cs++[n%Dq]) (n/Dq):=by
 unfold F6 at h ⊢;rw[XO XF b]at h;rw[Ce];exact h
theorem F6.done(h:F6 a cs 0):cs=Jc Dq a:=by
 unfold F6 at h;rw[Jz,Cl]at h;exact h
theorem F6.length{a:Nat}{cs:List Nat}{n:Nat}(h:F6 a cs n):cs.length<=(Jc Dq a).length:=by
 rw[<-h,Ai];omega
theorem P5{len:Nat}(h:(Jc Z n).length<=len):(Jc Dq n).length<=2*len:=by
 refine JK XF ?_;have a:2<=Z:=by unfold Z;omega
 have c:n<Z^(Jc Z n).length:=by
  have:=Yl (Jq a n);rwa[Jo a]at this
 have d:Z^(Jc Z n).length<=Z^len:=Aw J h;have b:Z^len<=(Dq^2)^len:=CT (by unfold Z Dq;decide) len;rw[<-FJ]at b;omega
theorem WY(h:n≠0):JN (Jc Dq n)=Xt n:=by
 have a:=Jo XF n;rw[U8 ?_ (Jq XF n) (Yn XF n),a];intro e;rw[e]at a;exact h a.symm
