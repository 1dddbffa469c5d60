import Derived.Test.YteldjhhjnchdeaaGreatDoorW07
import Derived.Test.YteldjhhjnchdeaaGreatDoorW18
set_option maxRecDepth 100000
set_option maxHeartbeats 16000000
namespace Go.Proofs.YteldjhhjnchdeaaGreatDoor
open Go.RowKit Go.Shelf
theorem Oq:∀(ds:List Nat),ds.take (JI ds).length=JI ds
 |[]=>rfl
 |d::ds=>by
  have a:=Oq ds;rw[JI];generalize JI ds=l at a ⊢;cases l with
  |nil=>by_cases h:d=0<;>simp[h]
  |cons e b=>simpa using a
variable{cs:List Nat}{n n0:Nat}
theorem Xf:2<=Do:=by unfold Do;omega
theorem Ot:Do<Y:=by unfold Do Y;omega
theorem Em.chunk{d:List Nat}{l rest:Nat}{q:List Nat}(h:Em d l Do l rest q)(g:d.take l=Jg Y n):
 rest=n%Do/\JI q=Jg Y (n/Do):=by
 obtain⟨i,e,b,a⟩:=h;have c:2<=Y:=by unfold Y;omega
 rw[A7,AQ,g,Js c]at a;have f:val Y q=n/Do:=by
  rw[<-a,Fb,Fz _ _ (by have:=Xf;omega),Ch b,A9]
 refine⟨?_,?_⟩
 . rw[<-a,Fb,Nat.add_mul_mod_self_right,Cm b]
 . rw[<-Yk c e,f]
def Eo(n0:Nat)(cs:List Nat)(n:Nat):Prop:=cs++Jg Do n=Jg Do n0
theorem Eo.start(n0:Nat):Eo n0 [] n0:=rfl
theorem Eo.step(h:Eo n0 cs n)(a:n≠0):Eo n0 (cs++[n%Do]) (n/Do):=by
 unfold Eo at h ⊢;rw[Xm Xf a]at h;rw[CN];exact h
theorem Eo.done(h:Eo n0 cs 0):cs=Jg Do n0:=by
 unfold Eo at h;rw[JF,CV]at h;exact h
theorem Eo.length{n0:Nat}{cs:List Nat}{n:Nat}(h:Eo n0 cs n):cs.length<=(Jg Do n0).length:=by
 rw[<-h,Aq];omega
theorem Ou{len:Nat}(h:(Jg Y n).length<=len):(Jg Do n).length<=2*len:=by
 refine JX Xf ?_;have a:2<=Y:=by unfold Y;omega
 have c:n<Y^(Jg Y n).length:=by
  have:=Yv (Ju a n);rwa[Js a]at this
 have d:Y^(Jg Y n).length<=Y^len:=Az Z h;have b:Y^len<=(Do^2)^len:=CM (by unfold Y Do;decide) len;rw[<-FJ]at b;omega
theorem UG(h:n≠0):JH (Jg Do n)=X2 n:=by
 have a:=Js Xf n;rw[Sh ?_ (Ju Xf n) (Xn Xf n),a];intro e;rw[e]at a;exact h a.symm
