import Derived.Test.YteldjhhjnchdeaaGreatDoorT07
import Derived.Test.YteldjhhjnchdeaaGreatDoorT18
set_option maxRecDepth 100000
set_option maxHeartbeats 16000000
namespace Go.Proofs.YteldjhhjnchdeaaGreatDoor
open Go.RowKit Go.Shelf
theorem P5:∀(ds:List Nat),ds.take (Jw ds).length=Jw ds
 |[]=>rfl
 |d::ds=>by
  have a:=P5 ds;rw[Jw];generalize Jw ds=l at a ⊢;cases l with
  |nil=>by_cases h:d=0<;>simp[h]
  |cons e b=>simpa using a
variable{cs:List Nat}{n n0:Nat}
theorem Xx:2<=Du:=by unfold Du;omega
theorem P6:Du<DR:=by unfold Du DR;omega
theorem F8.chunk{b:List Nat}{l rest:Nat}{q:List Nat}(h:F8 b l Du l rest q)(e:b.take l=Jc DR n):
 rest=n%Du/\Jw q=Jc DR (n/Du):=by
 obtain⟨i,g,d,a⟩:=h;have c:2<=DR:=by unfold DR;omega
 rw[A3,AE,e,Jo c]at a;have f:val DR q=n/Du:=by
  rw[<-a,CZ,FF _ _ (by have:=Xx;omega),Cb d,A8]
 refine⟨?_,?_⟩
 . rw[<-a,CZ,Nat.add_mul_mod_self_right,Cm d]
 . rw[<-J9 c g,f]
def F9(n0:Nat)(cs:List Nat)(n:Nat):Prop:=cs++Jc Du n=Jc Du n0
theorem F9.start(n0:Nat):F9 n0 [] n0:=rfl
theorem F9.step(h:F9 n0 cs n)(a:n≠0):F9 n0 (cs++[n%Du]) (n/Du):=by
 unfold F9 at h ⊢;rw[XI Xx a]at h;rw[Cf];exact h
theorem F9.done(h:F9 n0 cs 0):cs=Jc Du n0:=by
 unfold F9 at h;rw[Jy,Cl]at h;exact h
theorem F9.length{n0:Nat}{cs:List Nat}{n:Nat}(h:F9 n0 cs n):cs.length<=(Jc Du n0).length:=by
 rw[<-h,Ai];omega
theorem P7{len:Nat}(h:(Jc DR n).length<=len):(Jc Du n).length<=2*len:=by
 refine JJ Xx ?_;have a:2<=DR:=by unfold DR;omega
 have c:n<DR^(Jc DR n).length:=by
  have:=Yi (Jp a n);rwa[Jo a]at this
 have d:DR^(Jc DR n).length<=DR^len:=Aw om h;have b:DR^len<=(Du^2)^len:=CS (by unfold DR Du;decide) len;rw[<-FI]at b;omega
theorem WN(h:n≠0):JM (Jc Du n)=Xm n:=by
 have a:=Jo Xx n;rw[UY ?_ (Jp Xx n) (Yk Xx n),a];intro e;rw[e]at a;exact h a.symm
