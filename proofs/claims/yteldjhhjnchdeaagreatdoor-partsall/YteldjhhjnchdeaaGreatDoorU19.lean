import Derived.Test.YteldjhhjnchdeaaGreatDoorU07
import Derived.Test.YteldjhhjnchdeaaGreatDoorU18
set_option maxRecDepth 100000
set_option maxHeartbeats 16000000
namespace Go.Proofs.YteldjhhjnchdeaaGreatDoor
open Go.RowKit Go.Shelf
theorem RP:∀(ds:List Nat),ds.take (JA ds).length=JA ds
 |[]=>rfl
 |d::ds=>by
  have a:=RP ds;rw[JA];generalize JA ds=l at a ⊢;cases l with
  |nil=>by_cases h:d=0<;>simp[h]
  |cons e b=>simpa using a
variable{cs:List Nat}{n n0:Nat}
theorem XS:2<=Dw:=by unfold Dw;omega
theorem RQ:Dw<Z:=by unfold Dw Z;omega
theorem GM.chunk{d:List Nat}{l rest:Nat}{q:List Nat}(h:GM d l Dw l rest q)(g:d.take l=Jd Z n):
 rest=n%Dw/\JA q=Jd Z (n/Dw):=by
 obtain⟨i,e,b,a⟩:=h;have c:2<=Z:=by unfold Z;omega
 rw[A6,AJ,g,Jp c]at a;have f:val Z q=n/Dw:=by
  rw[<-a,C9,FL _ _ (by have:=XS;omega),Cg b,Cc]
 refine⟨?_,?_⟩
 . rw[<-a,C9,Nat.add_mul_mod_self_right,Ct b]
 . rw[<-Yh c e,f]
def GN(n0:Nat)(cs:List Nat)(n:Nat):Prop:=cs++Jd Dw n=Jd Dw n0
theorem GN.start(n0:Nat):GN n0 [] n0:=rfl
theorem GN.step(h:GN n0 cs n)(a:n≠0):GN n0 (cs++[n%Dw]) (n/Dw):=by
 unfold GN at h ⊢;rw[X6 XS a]at h;rw[Cj];exact h
theorem GN.done(h:GN n0 cs 0):cs=Jd Dw n0:=by
 unfold GN at h;rw[JD,Cn]at h;exact h
theorem GN.length{n0:Nat}{cs:List Nat}{n:Nat}(h:GN n0 cs n):cs.length<=(Jd Dw n0).length:=by
 rw[<-h,Aj];omega
theorem RR{len:Nat}(h:(Jd Z n).length<=len):(Jd Dw n).length<=2*len:=by
 refine JR XS ?_;have a:2<=Z:=by unfold Z;omega
 have c:n<Z^(Jd Z n).length:=by
  have:=Yu (Jq a n);rwa[Jp a]at this
 have d:Z^(Jd Z n).length<=Z^len:=Ax O h;have b:Z^len<=(Dw^2)^len:=CZ (by unfold Z Dw;decide) len;rw[<-FQ]at b;omega
theorem Zv(h:n≠0):JU (Jd Dw n)=XG n:=by
 have a:=Jp XS n;rw[WB ?_ (Jq XS n) (Yx XS n),a];intro e;rw[e]at a;exact h a.symm
