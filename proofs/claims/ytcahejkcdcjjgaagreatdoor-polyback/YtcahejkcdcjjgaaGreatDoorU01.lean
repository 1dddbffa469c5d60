import Derived.Test.YtcahejkcdcjjgaaGreatDoorU00
set_option linter.all false
set_option maxRecDepth 99999
set_option maxHeartbeats 0
namespace Go.Proofs.YtcahejkcdcjjgaaGreatDoor
def BH:=@if_pos
def BE:=@if_neg
def cf(p:Z)(i:Nat):Rat:=p[i]?.getD 0
variable{p:Z}{i n:Nat}
theorem Ed(i:Nat):cf [] i=0:=by simp[cf]
theorem Et(c:Rat)(t:Z):cf (c::t) 0=c:=by simp[cf]
theorem Xe(c:Rat)(t:Z)(i:Nat):cf (c::t) (i+1)=cf t i:=by simp[cf]
theorem Xv(h:p.length<=i):cf p i=0:=by simp[cf,List.getElem?_eq_none h]
def NY(h:i<p.length):cf p i=p[i]:=by simp[cf,List.getElem?_eq_getElem h]
theorem G5(p:Z)(c:Rat)(i:Nat):cf (p++[c]) i=if i=p.length then c else cf p i:=by
 grind[cf]
theorem EM(p:Z)(k:Nat)(c:Rat)(i:Nat)(a:k<p.length):cf (p.set k c) i=if i=k then c else cf p i:=by
 grind[cf]
theorem Yo(n:Nat)(i:Nat):cf (List.replicate n 0) i=0:=by
 grind[cf]
theorem NZ(n:Nat)(f:Nat->Rat)(i:Nat):cf ((List.range n).map f) i=if i<n then f i else 0:=by
 grind[cf]
theorem G8(p:Z)(n i:Nat):cf (p.take n) i=if i<n then cf p i else 0:=by
 grind[cf]
def Jv:Z->Z
 |[]=>[]
 |c::t=>match Jv t with
  |[]=>if c=0 then []else [c]
  |d::s=>c::d::s
theorem YK(p:Z)(i:Nat):cf (Jv p) i=cf p i:=by
 induction p generalizing i with
 |nil=>rfl
 |cons c t b=>
  have a:=b;rw[Jv];split
  . rename_i h;rw[h]at a;cases i with
    |zero=>split<;>simp_all [cf]
    |succ i=>
     grind[Xe,Ed]
  . rename_i d s h;rw[<-h];cases i with
    |zero=>rfl
    |succ i=>rw[Xe,Xe,a]
theorem GH(h:∀i,cf p i=0):Jv p=[]:=by
 induction p with
 |nil=>rfl
 |cons c t a=>
  have b:=a (λi=>by rw[<-Xe c t i];exact h (i+1));grind[Et,Jv]
theorem Yr{q:Z}(h:∀i,cf p i=cf q i):Jv p=Jv q:=by
 induction p generalizing q with
 |nil=>grind[GH,Ed]
 |cons c t e=>
  cases q with
  |nil=>grind[GH,Ed]
  |cons d s=>
   have a:c=d:=by have:=h 0;rwa[Et,Et]at this
   have b:=e (q:=s) (λi=>by have:=h (i+1);rwa[Xe,Xe]at this);rw[Jv,Jv,a,b]
def Na(p:Z):Jv (Jv p)=Jv p:=Yr (YK p)
theorem J7(p:Z):(Jv p).length<=p.length:=by
 induction p with
 |nil=>exact Aa _
 |cons c t a=>
  grind[Jv]
theorem Nb(h:p=[]\/cf p (p.length-1)≠0):Jv p=p:=by
 induction p with
 |nil=>rfl
 |cons c t a=>
  grind[Jv,cf]
theorem Kc(c:n<=p.length)(a:n=0\/cf p (n-1)≠0)(b:∀j,n<=j->cf p j=0):Jv p=p.take n:=by
 have e:Jv p=Jv (p.take n):=Yr λi=>by
  grind[G8]
 grind[Nb,G8]
def ev:Z->Rat->Rat
 |[],_=>0
 |c::t,x=>c+x*ev t x
def dv:Z->Rat->Rat
 |[],_=>0
 |_::t,x=>ev t x+x*dv t x
def Ee:Z->Z->Z
 |[],q=>q
 |p,[]=>p
 |c::t,d::s=>(c+d)::Ee t s
def XW(a:Rat)(p:Z):Z:=p.map λc=>c*a
def FO:Z->Z->Z
 |[],_=>[]
 |c::t,q=>Ee (XW c q) (0::FO t q)
theorem FP(p q:Z)(i:Nat):cf (Ee p q) i=cf p i+cf q i:=by
 induction p generalizing q i with
 |nil=>rw[Ee,Ed];grind
 |cons c t a=>
  cases q with
  |nil=>
   grind[Ee,Ed]
  |cons d s=>
   rw[Ee];cases i with
   |zero=>simp[cf]
   |succ i=>rw[Xe,Xe,Xe,a]
theorem GI(a:Rat)(p:Z)(i:Nat):cf (XW a p) i=cf p i*a:=by
 grind[cf,XW]
def sumN:Nat->(Nat->Rat)->Rat
 |0,_=>0
 |n+1,f=>sumN n f+f n
theorem Nc{f:Nat->Rat}(h:∀k,k<n->f k=0):sumN n f=0:=by
 induction n with
 |zero=>rfl
 |succ n a=>grind[sumN]
theorem Nd(n:Nat)(f:Nat->Rat):sumN (n+1) f=f 0+sumN n (λk=>f (k+1)):=by
 induction n with
 |zero=>simp[sumN];grind
 |succ n a=>rw[sumN,a,sumN];grind
def conv(p q:Z)(n k:Nat):Rat:=sumN n λi=>if i<=k then cf p i*cf q (k-i)else 0
theorem Kd(p q:Z)(k:Nat):cf (FO p q) k=conv p q p.length k:=by
 induction p generalizing k with
 |nil=>rfl
 |cons c t a=>
  rw[FO,FP,GI,conv,Ag,Nd];rw[BH (AL _),Et,CY];have e:cf (0::FO t q) k=sumN t.length (λi=>if i+1<=k then cf (c::t) (i+1)*cf q (k-(i+1))else 0):=by
   cases k with
   |zero=>
    grind[Et,Nc]
   |succ k=>
    grind[Xe,conv]
  rw[e];grind
def Dq(i:Nat)(q:Z):Z:=List.replicate i 0++q
theorem GJ(i:Nat)(q:Z)(k:Nat):cf (Dq i q) k=if i<=k then cf q (k-i)else 0:=by
 grind[cf,Dq]
def Y8(z:Z)(i:Nat)(a:Rat)(q:Z):Nat->Z
 |0=>z
 |j+1=>(Y8 z i a q j).set (i+j) (cf (Y8 z i a q j) (i+j)+a*cf q j)
theorem G9(z:Z)(i:Nat)(a:Rat)(q:Z)(j:Nat):(Y8 z i a q j).length=z.length:=by
 induction j with
 |zero=>rfl
 |succ j b=>rw[Y8,CT,b]
theorem Nf(z:Z)(i:Nat)(a:Rat)(q:Z)(j k:Nat)(h:i+j<=z.length):cf (Y8 z i a q j) k=cf z k+(if i<=k/\k<i+j then a*cf q (k-i)else 0):=by
 induction j with
 |zero=>rw[Y8,BE Y];grind
 |succ j b=>
  grind[Y8,EM,G9]
theorem Ng(z:Z)(i:Nat)(a:Rat)(q:Z)(k:Nat)(h:i+q.length<=z.length):cf (Y8 z i a q q.length) k=cf z k+a*cf (Dq i q) k:=by
 grind[Nf,GJ,Xv]
def Y9(p q:Z)(n:Nat):Nat->Z
 |0=>List.replicate n 0
 |i+1=>Y8 (Y9 p q n i) i (cf p i) q q.length
def Ha(p q:Z)(n i:Nat):(Y9 p q n i).length=n:=by
 induction i with
 |zero=>rw[Y9,A3]
 |succ i a=>rw[Y9,G9,a]
theorem Ke(p q:Z)(n i k:Nat)(h:i=0\/i+q.length<=n+1):cf (Y9 p q n i) k=conv p q i k:=by
 induction i with
 |zero=>rw[Y9,Yo];rfl
 |succ i a=>
  rw[Y9,Ng _ _ _ _ _ (by rw[Ha];omega),a Y,GJ];show _=conv p q i k+_
  grind
def Fj(p q:Z):Z:=Jv (Ee p q)
def GK(p q:Z):Z:=Jv (Ee p (XW (-1) q))
def Fk(p q:Z):Z:=Jv (FO p q)
