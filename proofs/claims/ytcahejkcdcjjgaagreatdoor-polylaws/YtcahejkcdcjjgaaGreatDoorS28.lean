import Derived.Test.YtcahejkcdcjjgaaGreatDoorS24
import Derived.Deep.Upon
import Derived.Lib.AppendZeros
set_option linter.all false
set_option maxRecDepth 99999
set_option maxHeartbeats 0
namespace Go.Proofs.YtcahejkcdcjjgaaGreatDoor
open Go.RowKit Go.Shelf
attribute [local go_sem] Oper.semAt_some
variable{Q ds:U}{n r:Nat}
def Ty(ds:U)(k:Nat)(h:k<ds.length):val 10000 (ds.drop k)=ds[k]?.getD 0+10000*val 10000 (ds.drop (k+1)):=by
 rw[Ay h,JR,AO h];rfl
def GD(ds:U)(n k r:Nat)(Q:U):Prop:=
 Q.length=ds.length/\DR 10000 Q/\r=val 10000 (ds.drop k)%n/\val 10000 Q=10000^k*(val 10000 (ds.drop k)/n)/\∀j,j<k->Q[j]?.getD 0=0
def GD.start(ds:U)(n:Nat):GD ds n ds.length 0 (List.replicate ds.length 0):=by
 refine⟨AC,λx b=>by rw[CJ b];omega,?_,?_,λj _=>?_⟩
 . rw[List.drop_length,Gp,Nat.zero_mod]
 . rw[List.drop_length,Gp,Nat.zero_div,Cd,N6]
 . by_cases a:j<ds.length
   . rw[List.getElem?_replicate_of_lt a];rfl
   . rw[Cg (by rw[AC];omega)];rfl
theorem GD.step{k d:Nat}(h:GD ds n (k+1) r Q)(s:k<ds.length)(q:d=ds[k]?.getD 0)(b:0<n)(v:d<10000):
 d+10000*r<n*10000/\GD ds n k ((d+10000*r)%n) (Q.set k ((d+10000*r)/n)):=by
 obtain⟨m,o,e,p,f⟩:=h;have g:=Ty ds k s;rw[<-q]at g;have x:r<n:=by rw[e];exact AY _ b
 have c:d+10000*r<n*10000:=Z
 have a:=Mf (t:=val 10000 (ds.drop (k+1))) (k:=10000) (un0:=d) b;have i:val 10000 (ds.drop (k+1))*10000+d=val 10000 (ds.drop k):=by rw[g,AK,CO]
 have l:val 10000 (ds.drop (k+1))%n*10000+d=d+10000*r:=by rw[<-e,AK,CO]
 rw[i,l]at a;have u:(d+10000*r)/n<10000:=by rw[AD b,AK 10000 n];exact c
 refine⟨c,by rw[CS];exact m,o.set k u,a.2,?_,λj w=>?_⟩
 . have hs:=Lh 10000 Q k ((d+10000*r)/n) Z;rw[f k Z,Cd,A4]at hs;rw[hs,p,<-a.1,Ce];generalize val 10000 (ds.drop (k+1))/n=A;grind
 . rw[Cs Z];exact f j Z
def GD.fin{m:Nat}(h:GD ds n 0 r Q)(d:ds=Jc 10000 m):Jw Q=Jc 10000 (m/n)/\r=m%n:=by
 obtain⟨e,c,b,a,f⟩:=h;rw[AH,d,Jl Z]at b a;rw[Nat.pow_zero,C5]at a;exact⟨by rw[<-JP Z c,a],b⟩
