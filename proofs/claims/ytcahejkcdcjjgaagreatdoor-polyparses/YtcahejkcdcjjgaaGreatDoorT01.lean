import Derived.Test.YtcahejkcdcjjgaaGreatDoorT00
set_option linter.all false
set_option maxRecDepth 99999
set_option maxHeartbeats 0
namespace Go.Proofs.YtcahejkcdcjjgaaGreatDoor
def BL:=@if_pos
def BH:=@if_neg
def cf(p:X)(i:Nat):Rat:=p[i]?.getD 0
variable{p:X}{i n:Nat}
theorem EP(i:Nat):cf [] i=0:=by simp[cf]
theorem Ep(c:Rat)(t:X):cf (c::t) 0=c:=by simp[cf]
theorem Xa(c:Rat)(t:X)(i:Nat):cf (c::t) (i+1)=cf t i:=by simp[cf]
theorem XW(h:p.length<=i):cf p i=0:=by simp[cf,List.getElem?_eq_none h]
def NI(h:i<p.length):cf p i=p[i]:=by simp[cf,List.getElem?_eq_getElem h]
theorem Gn(p:X)(c:Rat)(i:Nat):cf (p++[c]) i=if i=p.length then c else cf p i:=by
 grind[cf]
theorem Ea(p:X)(k:Nat)(c:Rat)(i:Nat)(a:k<p.length):cf (p.set k c) i=if i=k then c else cf p i:=by
 grind[cf]
theorem Yx(n:Nat)(i:Nat):cf (List.replicate n 0) i=0:=by
 grind[cf]
theorem NJ(n:Nat)(f:Nat->Rat)(i:Nat):cf ((List.range n).map f) i=if i<n then f i else 0:=by
 grind[cf]
theorem Gp(p:X)(n i:Nat):cf (p.take n) i=if i<n then cf p i else 0:=by
 grind[cf]
def Jv:X->X
 |[]=>[]
 |c::t=>match Jv t with
  |[]=>if c=0 then []else [c]
  |d::s=>c::d::s
theorem YE(p:X)(i:Nat):cf (Jv p) i=cf p i:=by
 induction p generalizing i with
 |nil=>rfl
 |cons c t b=>
  have a:=b;rw[Jv];split
  . rename_i h;rw[h]at a;cases i with
    |zero=>split<;>simp_all [cf]
    |succ i=>
     grind[Xa,EP]
  . rename_i d s h;rw[<-h];cases i with
    |zero=>rfl
    |succ i=>rw[Xa,Xa,a]
theorem Fy(h:∀i,cf p i=0):Jv p=[]:=by
 induction p with
 |nil=>rfl
 |cons c t a=>
  have b:=a (λi=>by rw[<-Xa c t i];exact h (i+1));grind[Ep,Jv]
theorem YP{q:X}(h:∀i,cf p i=cf q i):Jv p=Jv q:=by
 induction p generalizing q with
 |nil=>grind[Fy,EP]
 |cons c t e=>
  cases q with
  |nil=>grind[Fy,EP]
  |cons d s=>
   have a:c=d:=by have:=h 0;rwa[Ep,Ep]at this
   have b:=e (q:=s) (λi=>by have:=h (i+1);rwa[Xa,Xa]at this);rw[Jv,Jv,a,b]
def NK(p:X):Jv (Jv p)=Jv p:=YP (YE p)
theorem Yh(p:X):(Jv p).length<=p.length:=by
 induction p with
 |nil=>exact Aa _
 |cons c t a=>
  grind[Jv]
theorem NL(h:Jv p=p)(a:p≠[]):cf p (p.length-1)≠0:=by
 induction p with
 |nil=>exact absurd J a
 |cons c t b=>
  grind[Jv,cf]
theorem NM(h:p=[]\/cf p (p.length-1)≠0):Jv p=p:=by
 induction p with
 |nil=>rfl
 |cons c t a=>
  grind[Jv,cf]
theorem KN(c:n<=p.length)(a:n=0\/cf p (n-1)≠0)(b:∀j,n<=j->cf p j=0):Jv p=p.take n:=by
 have e:Jv p=Jv (p.take n):=YP λi=>by
  grind[Gp]
 grind[NM,Gp]
def ev:X->Rat->Rat
 |[],_=>0
 |c::t,x=>c+x*ev t x
def dv:X->Rat->Rat
 |[],_=>0
 |_::t,x=>ev t x+x*dv t x
def Eb:X->X->X
 |[],q=>q
 |p,[]=>p
 |c::t,d::s=>(c+d)::Eb t s
def XT(a:Rat)(p:X):X:=p.map λc=>c*a
def FG:X->X->X
 |[],_=>[]
 |c::t,q=>Eb (XT c q) (0::FG t q)
theorem FH(p q:X)(i:Nat):cf (Eb p q) i=cf p i+cf q i:=by
 induction p generalizing q i with
 |nil=>rw[Eb,EP];grind
 |cons c t a=>
  cases q with
  |nil=>
   grind[Eb,EP]
  |cons d s=>
   rw[Eb];cases i with
   |zero=>simp[cf]
   |succ i=>rw[Xa,Xa,Xa,a]
theorem Fz(a:Rat)(p:X)(i:Nat):cf (XT a p) i=cf p i*a:=by
 grind[cf,XT]
def sumN:Nat->(Nat->Rat)->Rat
 |0,_=>0
 |n+1,f=>sumN n f+f n
theorem NN{f:Nat->Rat}(h:∀k,k<n->f k=0):sumN n f=0:=by
 induction n with
 |zero=>rfl
 |succ n a=>grind[sumN]
theorem NO(n:Nat)(f:Nat->Rat):sumN (n+1) f=f 0+sumN n (λk=>f (k+1)):=by
 induction n with
 |zero=>simp[sumN];grind
 |succ n a=>rw[sumN,a,sumN];grind
def conv(p q:X)(n k:Nat):Rat:=sumN n λi=>if i<=k then cf p i*cf q (k-i)else 0
theorem KO(p q:X)(k:Nat):cf (FG p q) k=conv p q p.length k:=by
 induction p generalizing k with
 |nil=>rfl
 |cons c t a=>
  rw[FG,FH,Fz,conv,Ai,NO];rw[BL (AO _),Ep,CO];have e:cf (0::FG t q) k=sumN t.length (λi=>if i+1<=k then cf (c::t) (i+1)*cf q (k-(i+1))else 0):=by
   cases k with
   |zero=>
    grind[Ep,NN]
   |succ k=>
    grind[Xa,conv]
  rw[e];grind
def Dv(i:Nat)(q:X):X:=List.replicate i 0++q
theorem F0(i:Nat)(q:X)(k:Nat):cf (Dv i q) k=if i<=k then cf q (k-i)else 0:=by
 grind[cf,Dv]
def Y3(z:X)(i:Nat)(a:Rat)(q:X):Nat->X
 |0=>z
 |j+1=>(Y3 z i a q j).set (i+j) (cf (Y3 z i a q j) (i+j)+a*cf q j)
theorem Gq(z:X)(i:Nat)(a:Rat)(q:X)(j:Nat):(Y3 z i a q j).length=z.length:=by
 induction j with
 |zero=>rfl
 |succ j b=>rw[Y3,CZ,b]
theorem NP(z:X)(i:Nat)(a:Rat)(q:X)(j k:Nat)(h:i+j<=z.length):cf (Y3 z i a q j) k=cf z k+(if i<=k/\k<i+j then a*cf q (k-i)else 0):=by
 induction j with
 |zero=>rw[Y3,BH Y];grind
 |succ j b=>
  grind[Y3,Ea,Gq]
theorem NQ(z:X)(i:Nat)(a:Rat)(q:X)(k:Nat)(h:i+q.length<=z.length):cf (Y3 z i a q q.length) k=cf z k+a*cf (Dv i q) k:=by
 grind[NP,F0,XW]
def Y4(p q:X)(n:Nat):Nat->X
 |0=>List.replicate n 0
 |i+1=>Y3 (Y4 p q n i) i (cf p i) q q.length
def Gr(p q:X)(n i:Nat):(Y4 p q n i).length=n:=by
 induction i with
 |zero=>rw[Y4,AX]
 |succ i a=>rw[Y4,Gq,a]
theorem KP(p q:X)(n i k:Nat)(h:i=0\/i+q.length<=n+1):cf (Y4 p q n i) k=conv p q i k:=by
 induction i with
 |zero=>rw[Y4,Yx];rfl
 |succ i a=>
  rw[Y4,NQ _ _ _ _ _ (by rw[Gr];omega),a Y,F0];show _=conv p q i k+_
  grind
def FU(p q:X):X:=Jv (Eb p q)
def F1(p q:X):X:=Jv (Eb p (XT (-1) q))
def FV(p q:X):X:=Jv (FG p q)
