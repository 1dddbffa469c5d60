import Derived.Test.YtcahejkcdcjjgaaGreatDoorT07
import Derived.Test.YtcahejkcdcjjgaaGreatDoorT18
set_option maxRecDepth 100000
set_option maxHeartbeats 16000000
namespace Go.Proofs.YtcahejkcdcjjgaaGreatDoor
open Go.RowKit Go.Shelf
theorem OA:∀(ds:List Nat),ds.take (Jt ds).length=Jt ds
 |[]=>rfl
 |d::ds=>by
  have a:=OA ds;rw[Jt];generalize Jt ds=l at a ⊢;cases l with
  |nil=>by_cases h:d=0<;>simp[h]
  |cons e b=>simpa using a
variable{cs:List Nat}{a n:Nat}
theorem Xg:2<=Dl:=by unfold Dl;omega
theorem OB:Dl<DN:=by unfold Dl DN;omega
theorem Er.chunk{c:List Nat}{l rest:Nat}{q:List Nat}(h:Er c l Dl l rest q)(e:c.take l=Jc DN n):
 rest=n%Dl/\Jt q=Jc DN (n/Dl):=by
 obtain⟨i,g,b,a⟩:=h;have d:2<=DN:=by unfold DN;omega
 rw[A0,Au,e,Jm d]at a;have f:val DN q=n/Dl:=by
  rw[<-a,CW,Nat.add_mul_div_right _ _ (by have:=Xg;omega),Cj b,Ck]
 refine⟨?_,?_⟩
 . rw[<-a,CW,Nat.add_mul_mod_self_right,Cp b]
 . rw[<-JU d g,f]
def Es(a:Nat)(cs:List Nat)(n:Nat):Prop:=cs++Jc Dl n=Jc Dl a
theorem Es.start(a:Nat):Es a [] a:=rfl
theorem Es.step(h:Es a cs n)(b:n≠0):Es a (cs++[n%Dl]) (n/Dl):=by
 unfold Es at h ⊢;rw[Xo Xg b]at h;rw[Ch];exact h
theorem Es.done(h:Es a cs 0):cs=Jc Dl a:=by
 unfold Es at h;rw[Jy,Cm]at h;exact h
theorem Es.length{a:Nat}{cs:List Nat}{n:Nat}(h:Es a cs n):cs.length<=(Jc Dl a).length:=by
 rw[<-h,Al];omega
theorem OC{len:Nat}(h:(Jc DN n).length<=len):(Jc Dl n).length<=2*len:=by
 refine JI Xg ?_;have a:2<=DN:=by unfold DN;omega
 have c:n<DN^(Jc DN n).length:=by
  have:=Yd (Jo a n);rwa[Jm a]at this
 have d:DN^(Jc DN n).length<=DN^len:=AD om h;have b:DN^len<=(Dl^2)^len:=C9 (by unfold DN Dl;decide) len;rw[<-Nat.pow_mul]at b;omega
theorem TA(h:n≠0):JK (Jc Dl n)=Y5 n:=by
 have a:=Jm Xg n;rw[Re ?_ (Jo Xg n) (Yf Xg n),a];intro e;rw[e]at a;exact h a.symm
