import Derived.Test.YtcahejkcdcjjgaaGreatDoorQ00
set_option linter.all false
set_option maxRecDepth 99999
set_option maxHeartbeats 0
namespace Go.Proofs.YtcahejkcdcjjgaaGreatDoor
def BM:=@if_pos
def BJ:=@if_neg
def cf(p:X)(i:Nat):Rat:=p[i]?.getD 0
variable{p:X}{i n:Nat}
theorem Ez(i:Nat):cf [] i=0:=by simp[cf]
theorem Fqq(c:Rat)(t:X):cf (c::t) 0=c:=by simp[cf]
theorem Xc(c:Rat)(t:X)(i:Nat):cf (c::t) (i+1)=cf t i:=by simp[cf]
theorem Ed(h:p.length<=i):cf p i=0:=by simp[cf,List.getElem?_eq_none h]
def M7(h:i<p.length):cf p i=p[i]:=by simp[cf,List.getElem?_eq_getElem h]
theorem Jx(p:X)(c:Rat)(i:Nat):cf (p++[c]) i=if i=p.length then c else cf p i:=by
 grind[cf]
theorem Ee(p:X)(k:Nat)(c:Rat)(i:Nat)(a:k<p.length):cf (p.set k c) i=if i=k then c else cf p i:=by
 grind[cf]
theorem YN(n:Nat)(i:Nat):cf (List.replicate n 0) i=0:=by
 grind[cf]
theorem M8(n:Nat)(f:Nat->Rat)(i:Nat):cf ((List.range n).map f) i=if i<n then f i else 0:=by
 grind[cf]
theorem Gt(p:X)(n i:Nat):cf (p.take n) i=if i<n then cf p i else 0:=by
 grind[cf]
def JE:X->X
 |[]=>[]
 |c::t=>match JE t with
  |[]=>if c=0 then []else [c]
  |d::s=>c::d::s
theorem FT(p:X)(i:Nat):cf (JE p) i=cf p i:=by
 induction p generalizing i with
 |nil=>rfl
 |cons c t b=>
  have a:=b;rw[JE];split
  . rename_i h;rw[h]at a;cases i with
    |zero=>split<;>simp_all [cf]
    |succ i=>
     grind[Xc,Ez]
  . rename_i d s h;rw[<-h];cases i with
    |zero=>rfl
    |succ i=>rw[Xc,Xc,a]
theorem Gu(h:∀i,cf p i=0):JE p=[]:=by
 induction p with
 |nil=>rfl
 |cons c t a=>
  have b:=a (λi=>by rw[<-Xc c t i];exact h (i+1));grind[Fqq,JE]
theorem Gv{q:X}(h:∀i,cf p i=cf q i):JE p=JE q:=by
 induction p generalizing q with
 |nil=>grind[Gu,Ez]
 |cons c t e=>
  cases q with
  |nil=>grind[Gu,Ez]
  |cons d s=>
   have a:c=d:=by have:=h 0;rwa[Fqq,Fqq]at this
   have b:=e (q:=s) (λi=>by have:=h (i+1);rwa[Xc,Xc]at this);rw[JE,JE,a,b]
def M9(p:X):JE (JE p)=JE p:=Gv (FT p)
theorem YO(p:X):(JE p).length<=p.length:=by
 induction p with
 |nil=>exact Aa _
 |cons c t a=>
  grind[JE]
theorem NA(h:JE p=p)(a:p≠[]):cf p (p.length-1)≠0:=by
 induction p with
 |nil=>exact absurd J a
 |cons c t b=>
  grind[JE,cf]
theorem NB(h:p=[]\/cf p (p.length-1)≠0):JE p=p:=by
 induction p with
 |nil=>rfl
 |cons c t a=>
  grind[JE,cf]
theorem KA(c:n<=p.length)(a:n=0\/cf p (n-1)≠0)(b:∀j,n<=j->cf p j=0):JE p=p.take n:=by
 have e:JE p=JE (p.take n):=Gv λi=>by
  grind[Gt]
 grind[NB,Gt]
def ev:X->Rat->Rat
 |[],_=>0
 |c::t,x=>c+x*ev t x
def dv:X->Rat->Rat
 |[],_=>0
 |_::t,x=>ev t x+x*dv t x
def E0:X->X->X
 |[],q=>q
 |p,[]=>p
 |c::t,d::s=>(c+d)::E0 t s
def Gw(a:Rat)(p:X):X:=p.map λc=>c*a
def E1:X->X->X
 |[],_=>[]
 |c::t,q=>E0 (Gw c q) (0::E1 t q)
theorem NC(p q:X)(i:Nat):cf (E0 p q) i=cf p i+cf q i:=by
 induction p generalizing q i with
 |nil=>rw[E0,Ez];grind
 |cons c t a=>
  cases q with
  |nil=>
   grind[E0,Ez]
  |cons d s=>
   rw[E0];cases i with
   |zero=>simp[cf]
   |succ i=>rw[Xc,Xc,Xc,a]
theorem ND(a:Rat)(p:X)(i:Nat):cf (Gw a p) i=cf p i*a:=by
 grind[cf,Gw]
def sumN:Nat->(Nat->Rat)->Rat
 |0,_=>0
 |n+1,f=>sumN n f+f n
theorem NE{f:Nat->Rat}(h:∀k,k<n->f k=0):sumN n f=0:=by
 induction n with
 |zero=>rfl
 |succ n a=>grind[sumN]
theorem NF(n:Nat)(f:Nat->Rat):sumN (n+1) f=f 0+sumN n (λk=>f (k+1)):=by
 induction n with
 |zero=>simp[sumN];grind
 |succ n a=>rw[sumN,a,sumN];grind
def conv(p q:X)(n k:Nat):Rat:=sumN n λi=>if i<=k then cf p i*cf q (k-i)else 0
theorem KB(p q:X)(k:Nat):cf (E1 p q) k=conv p q p.length k:=by
 induction p generalizing k with
 |nil=>rfl
 |cons c t a=>
  rw[E1,NC,ND,conv,Ai,NF];rw[BM (AH _),Fqq,CP];have e:cf (0::E1 t q) k=sumN t.length (λi=>if i+1<=k then cf (c::t) (i+1)*cf q (k-(i+1))else 0):=by
   cases k with
   |zero=>
    grind[Fqq,NE]
   |succ k=>
    grind[Xc,conv]
  rw[e];grind
def Gx(i:Nat)(q:X):X:=List.replicate i 0++q
theorem KC(i:Nat)(q:X)(k:Nat):cf (Gx i q) k=if i<=k then cf q (k-i)else 0:=by
 grind[cf,Gx]
def Y3(z:X)(i:Nat)(a:Rat)(q:X):Nat->X
 |0=>z
 |j+1=>(Y3 z i a q j).set (i+j) (cf (Y3 z i a q j) (i+j)+a*cf q j)
theorem X6(z:X)(i:Nat)(a:Rat)(q:X)(j:Nat):(Y3 z i a q j).length=z.length:=by
 induction j with
 |zero=>rfl
 |succ j b=>rw[Y3,CS,b]
theorem NG(z:X)(i:Nat)(a:Rat)(q:X)(j k:Nat)(h:i+j<=z.length):cf (Y3 z i a q j) k=cf z k+(if i<=k/\k<i+j then a*cf q (k-i)else 0):=by
 induction j with
 |zero=>rw[Y3,BJ O];grind
 |succ j b=>
  grind[Y3,Ee,X6]
theorem NH(z:X)(i:Nat)(a:Rat)(q:X)(k:Nat)(h:i+q.length<=z.length):cf (Y3 z i a q q.length) k=cf z k+a*cf (Gx i q) k:=by
 grind[NG,KC,Ed]
def Y4(p q:X)(n:Nat):Nat->X
 |0=>List.replicate n 0
 |i+1=>Y3 (Y4 p q n i) i (cf p i) q q.length
def X7(p q:X)(n i:Nat):(Y4 p q n i).length=n:=by
 induction i with
 |zero=>rw[Y4,AZ]
 |succ i a=>rw[Y4,X6,a]
theorem KD(p q:X)(n i k:Nat)(h:i=0\/i+q.length<=n+1):cf (Y4 p q n i) k=conv p q i k:=by
 induction i with
 |zero=>rw[Y4,YN];rfl
 |succ i a=>
  rw[Y4,NH _ _ _ _ _ (by rw[X7];omega),a O,KC];show _=conv p q i k+_
  grind
def FU(p q:X):X:=JE (E1 p q)
