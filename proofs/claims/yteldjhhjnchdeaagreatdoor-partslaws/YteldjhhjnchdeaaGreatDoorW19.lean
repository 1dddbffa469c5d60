import Derived.Test.YteldjhhjnchdeaaGreatDoorW07
import Derived.Test.YteldjhhjnchdeaaGreatDoorW18
set_option maxRecDepth 100000
set_option maxHeartbeats 16000000
namespace Go.Proofs.YteldjhhjnchdeaaGreatDoor
open Go.RowKit Go.Shelf
theorem Oo:∀(ds:List Nat),ds.take (JI ds).length=JI ds
 |[]=>rfl
 |d::ds=>by
  have a:=Oo ds;rw[JI];generalize JI ds=l at a ⊢;cases l with
  |nil=>by_cases h:d=0<;>simp[h]
  |cons e b=>simpa using a
variable{cs:List Nat}{a n:Nat}
theorem Xd:2<=Dm:=by unfold Dm;omega
theorem Oq:Dm<J:=by unfold Dm J;omega
theorem Eh.chunk{d:List Nat}{l rest:Nat}{q:List Nat}(h:Eh d l Dm l rest q)(g:d.take l=Jg J n):
 rest=n%Dm/\JI q=Jg J (n/Dm):=by
 obtain⟨i,e,b,a⟩:=h;have c:2<=J:=by unfold J;omega
 rw[A7,AQ,g,Js c]at a;have f:val J q=n/Dm:=by
  rw[<-a,Fb,Fz _ _ (by have:=Xd;omega),Cg b,A9]
 refine⟨?_,?_⟩
 . rw[<-a,Fb,Nat.add_mul_mod_self_right,Cl b]
 . rw[<-Yj c e,f]
def Ei(a:Nat)(cs:List Nat)(n:Nat):Prop:=cs++Jg Dm n=Jg Dm a
theorem Ei.start(a:Nat):Ei a [] a:=rfl
theorem Ei.step(h:Ei a cs n)(b:n≠0):Ei a (cs++[n%Dm]) (n/Dm):=by
 unfold Ei at h ⊢;rw[Xi Xd b]at h;rw[CO];exact h
theorem Ei.done(h:Ei a cs 0):cs=Jg Dm a:=by
 unfold Ei at h;rw[JF,CW]at h;exact h
theorem Ei.length{a:Nat}{cs:List Nat}{n:Nat}(h:Ei a cs n):cs.length<=(Jg Dm a).length:=by
 rw[<-h,Aq];omega
theorem Ot{len:Nat}(h:(Jg J n).length<=len):(Jg Dm n).length<=2*len:=by
 refine JX Xd ?_;have a:2<=J:=by unfold J;omega
 have c:n<J^(Jg J n).length:=by
  have:=Yv (Ju a n);rwa[Js a]at this
 have d:J^(Jg J n).length<=J^len:=Ay Y h;have b:J^len<=(Dm^2)^len:=CN (by unfold J Dm;decide) len;rw[<-FK]at b;omega
theorem UH(h:n≠0):JH (Jg Dm n)=X0 n:=by
 have a:=Js Xd n;rw[Si ?_ (Ju Xd n) (Xj Xd n),a];intro e;rw[e]at a;exact h a.symm
