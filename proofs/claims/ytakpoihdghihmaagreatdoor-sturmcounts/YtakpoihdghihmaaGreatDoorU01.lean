import Derived.Test.YtakpoihdghihmaaGreatDoorU00
set_option linter.all false
set_option maxRecDepth 99999
set_option maxHeartbeats 0
namespace Go.Proofs.YtakpoihdghihmaaGreatDoor
open List renaming replicate->nL
section
def BG:=@if_pos
def BD:=@if_neg
def cf(p:Ja)(i:Nat):Rat:=p[i]?.getD 0
variable{p q:Ja}{i k n:Nat}{K L u v:Rat}
theorem YB(i:Nat):cf [] i=0:=by simp[cf]
theorem YE(c:Rat)(t:Ja):cf (c::t) 0=c:=by simp[cf]
theorem Yf(c:Rat)(t:Ja)(i:Nat):cf (c::t) (i+1)=cf t i:=by simp[cf]
theorem JZ(h:p.length<=i):cf p i=0:=by simp[cf,List.getElem?_eq_none h]
def Vm(h:i<p.length):cf p i=p[i]:=by simp[cf,List.getElem?_eq_getElem h]
theorem Ny(p:Ja)(c:Rat)(i:Nat):cf (p++[c]) i=if i=p.length then c else cf p i:=by
 grind[cf]
theorem XY(p:Ja)(k:Nat)(c:Rat)(i:Nat)(a:k<p.length):cf (p.set k c) i=if i=k then c else cf p i:=by
 grind[cf]
theorem J1(n:Nat)(i:Nat):cf (nL n 0) i=0:=by
 grind[cf]
theorem MF(n:Nat)(f:Nat->Rat)(i:Nat):cf ((List.range n).map f) i=if i<n then f i else 0:=by
 grind[cf]
theorem Nz(p:Ja)(n i:Nat):cf (p.take n) i=if i<n then cf p i else 0:=by
 grind[cf]
def Jc:Ja->Ja
 |[]=>[]
 |c::t=>match Jc t with
  |[]=>if c=0 then []else [c]
  |d::s=>c::d::s
theorem JT(p:Ja)(i:Nat):cf (Jc p) i=cf p i:=by
 induction p generalizing i with
 |nil=>rfl
 |cons c t b=>
  have a:=b;rw[Jc];split
  . rename_i h;rw[h]at a;cases i with
    |zero=>split<;>simp_all [cf]
    |succ i=>
     grind[Yf,YB]
  . rename_i d s h;rw[<-h];cases i with
    |zero=>rfl
    |succ i=>rw[Yf,Yf,a]
theorem MG(h:∀i,cf p i=0):Jc p=[]:=by
 induction p with
 |nil=>rfl
 |cons c t a=>
  have b:=a (λi=>by rw[<-Yf c t i];exact h (i+1));grind[YE,Jc]
theorem YL(h:∀i,cf p i=cf q i):Jc p=Jc q:=by
 induction p generalizing q with
 |nil=>grind[MG,YB]
 |cons c t e=>
  cases q with
  |nil=>grind[MG,YB]
  |cons d s=>
   have a:c=d:=by have:=h 0;rwa[YE,YE]at this
   have b:=e (q:=s) (λi=>by have:=h (i+1);rwa[Yf,Yf]at this);rw[Jc,Jc,a,b]
def Yc(p:Ja):Jc (Jc p)=Jc p:=YL (JT p)
theorem JV(p:Ja):(Jc p).length<=p.length:=by
 induction p with
 |nil=>exact Aa _
 |cons c t a=>
  grind[Jc]
theorem Jt(h:Jc p=p)(a:p≠[]):cf p (p.length-1)≠0:=by
 induction p with
 |nil=>exact absurd J a
 |cons c t b=>
  grind[Jc,cf]
theorem Q3(h:p=[]\/cf p (p.length-1)≠0):Jc p=p:=by
 induction p with
 |nil=>rfl
 |cons c t a=>
  grind[Jc,cf]
theorem Q4(c:n<=p.length)(a:n=0\/cf p (n-1)≠0)(b:∀j,n<=j->cf p j=0):Jc p=p.take n:=by
 have e:Jc p=Jc (p.take n):=YL λi=>by
  grind[Nz]
 grind[Q3,Nz]
theorem N3(h:∀j,n<=j->cf p j=0):(Jc p).length<=n:=by
 rcases AQ n (Jc p).length with a|a
 . have b:=Jt (Yc p) DI;grind[JT]
 . exact a
def ev:Ja->Rat->Rat
 |[],_=>0
 |c::t,x=>c+x*ev t x
theorem LC(h:∀i,cf p i=0)(x:Rat):ev p x=0:=by
 induction p with
 |nil=>rfl
 |cons c t a=>
  have b:=a (λi=>by rw[<-Yf c t i];exact h (i+1));grind[YE,ev]
theorem LD(h:∀i,cf p i=cf q i)(x:Rat):ev p x=ev q x:=by
 induction p generalizing q with
 |nil=>grind[LC,YB]
 |cons c t e=>
  cases q with
  |nil=>grind[LC,YB]
  |cons d s=>
   have a:c=d:=by have:=h 0;rwa[YE,YE]at this
   have b:=e (q:=s) (λi=>by have:=h (i+1);rwa[Yf,Yf]at this);rw[ev,ev,a,b]
theorem XW(p:Ja)(x:Rat):ev (Jc p) x=ev p x:=LD (JT p) x
def dv:Ja->Rat->Rat
 |[],_=>0
 |_::t,x=>ev t x+x*dv t x
theorem Q5(h:∀i,cf p i=0)(x:Rat):dv p x=0:=by
 induction p with
 |nil=>rfl
 |cons c t b=>
  have a:∀i,cf t i=0:=λi=>by rw[<-Yf c t i];exact h (i+1)
  rw[dv,b a,LC a];grind
theorem Q6(h:∀i,cf p i=cf q i)(x:Rat):dv p x=dv q x:=by
 induction p generalizing q with
 |nil=>grind[Q5,YB]
 |cons c t b=>
  cases q with
  |nil=>grind[Q5,YB]
  |cons d s=>
   have a:∀i,cf t i=cf s i:=λi=>by have:=h (i+1);rwa[Yf,Yf]at this
   rw[dv,dv,b a,LD a]
def IL:Ja->Rat->Ja
 |[],_=>[]
 |_::t,a=>match t with
  |[]=>[]
  |d::s=>ev (d::s) a::IL (d::s) a
def Vn(p:Ja)(a:Rat):(IL p a).length=p.length-1:=by
 induction p with
 |nil=>rfl
 |cons c t b=>
  cases t with
  |nil=>rfl
  |cons d s=>
   rw[IL,Ah,b];simp
theorem Q7(p:Ja)(a x:Rat):ev p x=ev p a+(x-a)*ev (IL p a) x:=by
 induction p with
 |nil=>simp[ev,IL];grind
 |cons c t b=>
  cases t with
  |nil=>simp[ev,IL];grind
  |cons d s=>
   grind[IL,ev]
theorem Vo{m:Nat}(h:∀n:Nat,m<=n->ev p (n:Rat)=0)(x:Rat):ev p x=0:=by
 obtain⟨k,a⟩:=ex (p.length);induction k generalizing p m with
 |zero=>
  have:p=[]:=Al a
  rw[this];rfl
 |succ k e=>
  have b:=h m (Aa _);have c:∀n:Nat,m+1<=n->ev (IL p m) (n:Rat)=0:=λn f=>by
   grind[Q7,Rat.natCast_inj]
  have d:=e c (by rw[Vn,a];rfl);rw[Q7 p (m:Rat) x,b,d];grind
theorem Vp(h:∀x,ev p x=0)(i:Nat):cf p i=0:=by
 induction p generalizing i with
 |nil=>rfl
 |cons c t g=>
  have a:c=0:=by have:=h 0;rw[ev]at this;grind
  have b:∀x,ev t x=0:=λx=>Vo (m:=1) (λn k=>by
   have d:=h (n:Rat);rw[ev,a]at d;have j:(n:Rat)≠0:=λe=>by
    have f:(n:Rat)=((0:Nat):Rat):=e;have:=Rat.natCast_inj.1 f;omega
   grind) x
  cases i with
  |zero=>rw[YE];exact a
  |succ i=>rw[Yf];exact g b i
def Dt:Ja->Ja->Ja
 |[],q=>q
 |p,[]=>p
 |c::t,d::s=>(c+d)::Dt t s
def Yv(a:Rat)(p:Ja):Ja:=p.map λc=>c*a
def EQ:Ja->Ja->Ja
 |[],_=>[]
 |c::t,q=>Dt (Yv c q) (0::EQ t q)
theorem XL(p q:Ja)(i:Nat):cf (Dt p q) i=cf p i+cf q i:=by
 induction p generalizing q i with
 |nil=>rw[Dt,YB];grind
 |cons c t a=>
  cases q with
  |nil=>
   grind[Dt,YB]
  |cons d s=>
   rw[Dt];cases i with
   |zero=>simp[cf]
   |succ i=>rw[Yf,Yf,Yf,a]
theorem Xq(a:Rat)(p:Ja)(i:Nat):cf (Yv a p) i=cf p i*a:=by
 grind[cf,Yv]
theorem Gx(p q:Ja)(x:Rat):ev (Dt p q) x=ev p x+ev q x:=by
 induction p generalizing q with
 |nil=>rw[Dt,ev];grind
 |cons c t a=>
  cases q with
  |nil=>
   grind[Dt,ev]
  |cons d s=>rw[Dt,ev,ev,ev,a];grind
theorem XM(a:Rat)(p:Ja)(x:Rat):ev (Yv a p) x=ev p x*a:=by
 induction p with
 |nil=>simp[Yv,ev]
 |cons c t b=>
  grind[Yv,ev]
theorem N8(p q:Ja)(x:Rat):ev (EQ p q) x=ev p x*ev q x:=by
 induction p with
 |nil=>rw[EQ,ev];grind
 |cons c t a=>rw[EQ,Gx,XM,ev,ev,a];grind
theorem Vq(p q:Ja)(x:Rat):dv (Dt p q) x=dv p x+dv q x:=by
 induction p generalizing q with
 |nil=>rw[Dt,dv];grind
 |cons c t a=>
  cases q with
  |nil=>
   grind[Dt,dv]
  |cons d s=>rw[Dt,dv,dv,dv,a,Gx];grind
theorem Q8(a:Rat)(p:Ja)(x:Rat):dv (Yv a p) x=dv p x*a:=by
 induction p with
 |nil=>simp[Yv,dv]
 |cons c t b=>
  grind[Yv,dv,XM]
theorem Vr(p q:Ja)(x:Rat):dv (EQ p q) x=dv p x*ev q x+ev p x*dv q x:=by
 induction p with
 |nil=>rw[EQ,dv,ev];grind
 |cons c t a=>grind[EQ,Vq,Q8,dv,ev,N8]
theorem MH(h:∀x,ev p x=ev q x):Jc p=Jc q:=by
 have a:∀i,cf (Dt p (Yv (-1) q)) i=0:=Vp (λx=>by rw[Gx,XM,h x];grind);refine YL λi=>?_;have:=a i;rw[XL,Xq]at this;grind
def sumN:Nat->(Nat->Rat)->Rat
 |0,_=>0
 |n+1,f=>sumN n f+f n
theorem N9{f:Nat->Rat}(h:∀k,k<n->f k=0):sumN n f=0:=by
 induction n with
 |zero=>rfl
 |succ n a=>grind[sumN]
theorem Vs(n:Nat)(f:Nat->Rat):sumN (n+1) f=f 0+sumN n (λk=>f (k+1)):=by
 induction n with
 |zero=>simp[sumN];grind
 |succ n a=>rw[sumN,a,sumN];grind
def conv(p q:Ja)(n k:Nat):Rat:=sumN n λi=>if i<=k then cf p i*cf q (k-i)else 0
theorem Ip(p q:Ja)(k:Nat):cf (EQ p q) k=conv p q p.length k:=by
 induction p generalizing k with
 |nil=>rfl
 |cons c t a=>
  rw[EQ,XL,Xq,conv,Ah,Vs];rw[BG (Ap _),YE,FV];have e:cf (0::EQ t q) k=sumN t.length (λi=>if i+1<=k then cf (c::t) (i+1)*cf q (k-(i+1))else 0):=by
   cases k with
   |zero=>
    grind[YE,N9]
   |succ k=>
    grind[Yf,conv]
  rw[e];grind
theorem Q9(p q:Ja)(h:p.length<=n):conv p q n k=conv p q p.length k:=by
 induction n with
 |zero=>grind
 |succ n b=>
  by_cases a:p.length=n+1
  . rw[a]
  . rw[<-b O];show conv p q n k+_=_
    grind[JZ]
theorem Vt(p q:Ja)(h:k+1<=n):conv p q n k=conv p q (k+1) k:=by
 induction n with
 |zero=>omega
 |succ n b=>
  by_cases a:k+1=n+1
  . rw[a]
  . rw[<-b O];show conv p q n k+_=_
    grind
theorem Vu(h:p.length+q.length<=k+1):cf (EQ p q) k=0:=by
 rw[Ip];refine N9 λi a=>?_;grind[JZ]
theorem RA(p q:Ja)(m n:Nat)(hp:p.length=m+1)(hq:q.length=n+1):cf (EQ p q) (m+n)=cf p m*cf q n:=by
 grind[Ip,conv,sumN,N9,JZ]
theorem RB(hp:Jc p=p)(hq:Jc q=q)(d:p≠[])(e:q≠[]):(Jc (EQ p q)).length=p.length+q.length-1:=by
 have f:=Jt hp d;have g:=Jt hq e;have l1:0<p.length:=Ac.2 d;have l2:0<q.length:=Ac.2 e;have i:=RA p q (p.length-1) (q.length-1) O O;have b:cf (EQ p q) (p.length-1+(q.length-1))≠0:=by
  rw[i];intro c;rcases Rat.mul_eq_zero.1 c with a|a
  . exact f a
  . exact g a
 have c:(Jc (EQ p q)).length<=p.length+q.length-1:=N3 λj k=>Vu O;rcases AQ (Jc (EQ p q)).length (p.length+q.length-1)with a|a
 . rw[<-JT]at b;exact absurd (JZ O) b
 . omega
def IM(p:Ja):Ja:=(List.range (p.length-1)).map λi=>cf p (i+1)*((i+1:Nat):Rat)
theorem Iq(p:Ja)(i:Nat):cf (IM p) i=cf p (i+1)*((i+1:Nat):Rat):=by
 grind[IM,MF,JZ]
theorem Vv(p:Ja)(x:Rat):ev (IM p) x=dv p x:=by
 induction p with
 |nil=>rfl
 |cons c t a=>
  have e:∀i,cf (IM (c::t)) i=cf (Dt t (0::IM t)) i:=λi=>by
   rw[Iq,XL,Yf];cases i with
   |zero=>rw[YE];grind
   |succ i=>rw[Yf,Iq];grind
  rw[LD e,Gx,ev,a,dv];grind
def Vw(p:Ja):Dt p []=p:=by cases p<;>rfl
theorem OA{u v b a:Ja}(hq:Jc q=q)(p:q≠[])(r:Jc u=u)(s:Jc b=b)(t:Jc v=v)(w:Jc a=a)(y:v.length<q.length)(z:a.length<q.length)
(h:∀x,ev q x*ev u x+ev v x=ev q x*ev b x+ev a x):u=b/\v=a:=by
 obtain⟨d,c⟩:=ex (Jc (Dt u (Yv (-1) b)));have l:Jc d=d:=by rw[<-c,Yc]
 have m:∀x,ev d x=ev u x-ev b x:=λx=>by rw[<-c,XW,Gx,XM];grind
 have e:∀x,ev (EQ d q) x=ev (Dt a (Yv (-1) v)) x:=λx=>by
  grind[N8,Gx,XM]
 have g:=MH e;have i:(Jc (Dt a (Yv (-1) v))).length<q.length:=by
  refine Cx (N3 (n:=q.length-1) λj o=>?_) O;rw[XL,Xq,JZ O,JZ O];grind
 have k:d=[]:=by
  by_cases f:d=[]
  . exact f
  . grind[RB,Ac]
 grind[ev,MH]
def Df(i:Nat)(q:Ja):Ja:=nL i 0++q
theorem Ir(i:Nat)(q:Ja)(k:Nat):cf (Df i q) k=if i<=k then cf q (k-i)else 0:=by
 grind[cf,Df]
theorem MI(i:Nat)(q:Ja)(x:Rat):ev (Df i q) x=x^i*ev q x:=by
 induction i with
 |zero=>rw[show Df 0 q=q from J];grind
 |succ i a=>
  grind[Df,ev]
def YZ(z:Ja)(i:Nat)(a:Rat)(q:Ja):Nat->Ja
 |0=>z
 |j+1=>(YZ z i a q j).set (i+j) (cf (YZ z i a q j) (i+j)+a*cf q j)
theorem LE(z:Ja)(i:Nat)(a:Rat)(q:Ja)(j:Nat):(YZ z i a q j).length=z.length:=by
 induction j with
 |zero=>rfl
 |succ j b=>rw[YZ,Fg,b]
theorem Vx(z:Ja)(i:Nat)(a:Rat)(q:Ja)(j k:Nat)(h:i+j<=z.length):cf (YZ z i a q j) k=cf z k+(if i<=k/\k<i+j then a*cf q (k-i)else 0):=by
 induction j with
 |zero=>rw[YZ,BD O];grind
 |succ j b=>
  grind[YZ,XY,LE]
theorem OB(z:Ja)(i:Nat)(a:Rat)(q:Ja)(k:Nat)(h:i+q.length<=z.length):cf (YZ z i a q q.length) k=cf z k+a*cf (Df i q) k:=by
 grind[Vx,Ir,JZ]
theorem Vy(z:Ja)(i:Nat)(a:Rat)(q:Ja)(x:Rat)(h:i+q.length<=z.length):ev (YZ z i a q q.length) x=ev z x+a*(x^i*ev q x):=by
 have e:∀k,cf (YZ z i a q q.length) k=cf (Dt z (Yv a (Df i q))) k:=λk=>by
  grind[OB,XL,Xq]
 rw[LD e,Gx,XM,MI];grind
def Xx(p q:Ja)(n:Nat):Nat->Ja
 |0=>nL n 0
 |i+1=>YZ (Xx p q n i) i (cf p i) q q.length
def OC(p q:Ja)(n i:Nat):(Xx p q n i).length=n:=by
 induction i with
 |zero=>rw[Xx,AW]
 |succ i a=>rw[Xx,LE,a]
theorem OD(p q:Ja)(n i k:Nat)(h:i=0\/i+q.length<=n+1):cf (Xx p q n i) k=conv p q i k:=by
 induction i with
 |zero=>rw[Xx,J1];rfl
 |succ i a=>
  rw[Xx,OB _ _ _ _ _ (by rw[OC];omega),a O,Ir];show _=conv p q i k+_
  grind
def JJ(p q:Ja)(n m:Nat):Nat->Ja × Ja
 |0=>(nL m 0,p)
 |k+1=>
  let s:=JJ p q n m k
  let i:=m-(k+1)
  let c:=cf s.2 (i+n)/cf q n
  (s.1.set i c,YZ s.2 i (-c) q q.length)
theorem YU(p q:Ja)(n m k:Nat):(JJ p q n m k).1.length=m/\(JJ p q n m k).2.length=p.length:=by
 induction k with
 |zero=>exact⟨AW,J⟩
 |succ k a=>grind[JJ,LE]
theorem Vz(p:Ja)(i:Nat)(c:Rat)(x:Rat)(b:i<p.length)(a:cf p i=0):ev (p.set i c) x=ev p x+c*x^i:=by
 have e:∀k,cf (p.set i c) k=cf (Dt p (Df i [c])) k:=λk=>by
  grind[XY,XL,Ir,YE,JZ]
 rw[LD e,Gx,MI];simp[ev];grind
theorem RC(p q:Ja)(n m:Nat)(hq:q.length=n+1)(hl:cf q n≠0)(b:m+n=p.length):∀k,k<=m->
 (∀x,ev p x=ev q x*ev (JJ p q n m k).1 x+ev (JJ p q n m k).2 x)/\(∀j,j<m-k->cf (JJ p q n m k).1 j=0)/\(∀j,m-k+n<=j->cf (JJ p q n m k).2 j=0):=by
 intro k;induction k with
 |zero=>
  intro _;grind[J1,JZ,JJ,LC]
 |succ k c=>
  intro a;grind[YU,JJ,Vz,Vy,XY,OB,Ir,JZ]
def JA(p q:Ja):Ja:=Jc (JJ p q (q.length-1) (p.length-(q.length-1)) (p.length-(q.length-1))).1
def JI(p q:Ja):Ja:=Jc (JJ p q (q.length-1) (p.length-(q.length-1)) (p.length-(q.length-1))).2
theorem J8(p q:Ja)(hq:Jc q=q)(a:q≠[]):(∀x,ev p x=ev q x*ev (JA p q) x+ev (JI p q) x)/\(JI p q).length<q.length/\Jc (JA p q)=JA p q/\Jc (JI p q)=JI p q:=by
 have l1:0<q.length:=Ac.2 a;refine⟨λx=>?_,?_,Yc _,Yc _⟩
 . unfold JA JI;rw[XW,XW];by_cases h:q.length-1<=p.length
   . exact(RC p q (q.length-1) (p.length-(q.length-1)) O (Jt hq a) O _ (Aa _)).1 x
   . rw[show p.length-(q.length-1)=0 from by omega,JJ];grind[LC,J1]
 . unfold JI;refine Cx (N3 (n:=q.length-1) λj b=>?_) O;by_cases h:q.length-1<=p.length
   . exact(RC p q (q.length-1) (p.length-(q.length-1)) O (Jt hq a) O _ (Aa _)).2.2 j O
   . rw[show p.length-(q.length-1)=0 from by omega,JJ];exact JZ (by dsimp only;omega)
def Xc(p q:Ja):Ja:=Jc (Dt p q)
def Ys(p q:Ja):Ja:=Jc (Dt p (Yv (-1) q))
def Jv(p q:Ja):Ja:=Jc (EQ p q)
def Jb(p:Ja):Ja:=Jc (IM p)
def Xr(p q:Ja):Jc (Xc p q)=Xc p q:=Yc _
theorem Xd(p q:Ja):Jc (Ys p q)=Ys p q:=Yc _
def Yq(p q:Ja):Jc (Jv p q)=Jv p q:=Yc _
theorem JO(p:Ja):Jc (Jb p)=Jb p:=Yc _
theorem YF(p q:Ja)(x:Rat):ev (Xc p q) x=ev p x+ev q x:=by unfold Xc;rw[XW,Gx]
theorem Xb(p q:Ja)(x:Rat):ev (Ys p q) x=ev p x-ev q x:=by grind[Ys,XW,Gx,XM]
theorem Ji(p q:Ja)(x:Rat):ev (Jv p q) x=ev p x*ev q x:=by unfold Jv;rw[XW,N8]
def KQ(p:Ja)(x:Rat):ev (Jb p) x=dv p x:=by unfold Jb;rw[XW,Vv]
theorem OE(p q:Ja)(i:Nat):cf (Xc p q) i=cf p i+cf q i:=by unfold Xc;rw[JT,XL]
theorem KR(p q:Ja)(i:Nat):cf (Ys p q) i=cf p i-cf q i:=by grind[Ys,JT,XL,Xq]
theorem WA(p q:Ja):(Dt p q).length=max p.length q.length:=by
 induction p generalizing q with
 |nil=>rw[Dt];simp
 |cons c t a=>
  cases q with
  |nil=>rw[Vw];simp
  |cons d s=>grind[Dt]
def WB(p q:Ja):(Xc p q).length<=max p.length q.length:=by
 have:=JV (Dt p q);rw[WA]at this;exact this
def Ea(hp:Jc p=p)(hq:Jc q=q)(h:∀x,ev p x=ev q x):p=q:=by rw[<-hp,<-hq];exact MH h
theorem WC(p q:Ja):Jb (Jv p q)=Xc (Jv (Jb p) q) (Jv p (Jb q)):=by
 refine Ea (JO _) (Xr _ _) λx=>?_;rw[KQ,YF,Ji,Ji,KQ,KQ,<-Vr];grind[Q6,Jv,JT]
def Xs(a b:Rat):a<=b\/b<=a:=Rat.le_total
theorem Xh{a b:Rat}(c:0<a)(d:0<b):0<a/b:=by
 have e:a/b*b=a:=AB DI;rcases Xs (a/b) 0 with h|h
 . have:=Ao (a:=-(a/b)) (b:=b) DI DI;grind
 . rcases A6.1 h with h|h
   . exact h
   grind
theorem WD{U V:Rat}(a:-U<=u)(b:u<=U)(c:-V<=v)(d:v<=V):-(U*V)<=u*v/\u*v<=U*V:=by
 have e:=Ao (a:=U-u) (b:=V+v) DI DI;have f:=Ao (a:=U+u) (b:=V-v) DI DI;have g:=Ao (a:=U-u) (b:=V-v) DI DI;have i:=Ao (a:=U+u) (b:=V+v) DI DI;constructor<;>grind
def Wi(K u:Rat):Prop:=-K<=u/\u<=K
theorem Wi.nn(h:Wi K u):0<=K:=by have:=h.1;have:=h.2;grind
def Wi.mul(h:Wi K u)(a:Wi L v):Wi (K*L) (u*v):=WD h.1 h.2 a.1 a.2
theorem Wi.add(h:Wi K u)(a:Wi L v):Wi (K+L) (u+v):=by have:=h.1;have:=h.2;have:=a.1;have:=a.2;constructor<;>grind
theorem Wi.mono(h:Wi K u)(hl:K<=L):Wi L u:=by have:=h.1;have:=h.2;constructor<;>grind
theorem Wi.neg(h:Wi K u):Wi K (-u):=by have:=h.1;have:=h.2;constructor<;>grind
def OG(c:Rat)(p:Ja)(x:Rat):ev (c::p) x=c+x*ev p x:=rfl
theorem LF(c:Rat):∃K,0<K/\Wi K c:=by
 rcases Xs 0 c with h|h
 . exact⟨c+1,DI,by constructor<;>grind⟩
 . exact⟨-c+1,DI,by constructor<;>grind⟩
theorem FY(p:Ja){B:Rat}(b:0<=B):∃K,0<K/\∀x,Wi B x->Wi K (ev p x):=by
 induction p with
 |nil=>exact⟨1,DK,λx _=>⟨by simp[ev];grind,by simp[ev];grind⟩⟩
 |cons c p f=>
  obtain⟨K,d,h⟩:=f;obtain⟨C,g,e⟩:=LF c;have:=Ao b (Fy d);exact⟨C+B*K,DI,λx a=>e.add (a.mul (h x a))⟩
theorem WE(p:Ja){B:Rat}(a:0<=B):∃K,0<K/\∀x y,Wi B x->Wi B y->x<=y->Wi (K*(y-x)) (ev p x-ev p y):=by
 induction p with
 |nil=>exact⟨1,DK,λx y _ _ d=>⟨by simp[ev];grind,by simp[ev];grind⟩⟩
 |cons c p l=>
  obtain⟨K,j,h⟩:=l;obtain⟨C,m,k⟩:=FY p a;refine⟨C+B*K+1,by have:=Ao a (Fy j);grind,λx y b f d=>?_⟩;have g:Wi (y-x) (x-y):=⟨DI,DI⟩;have i:=(g.mul (k x b)).add (f.mul (h x y b f d));have e:ev (c::p) x-ev (c::p) y=(x-y)*ev p x+y*(ev p x-ev p y):=by rw[OG,OG];grind
  rw[e];refine i.mono ?_;grind
def Sh(B:Rat)(P:Rat->Rat->Prop):Prop:=∃d,0<d/\∀x y,Wi B x->Wi B y->x<=y->y-x<=d->P x y
section
variable {B:Rat} {P Q:Rat->Rat->Prop}
def Sh.and(h:Sh B P)(f:Sh B Q):Sh B λx y=>P x y/\Q x y:=by
 obtain⟨d,d0,h⟩:=h;obtain⟨e,g,f⟩:=f;rcases Xs d e with i|i
 . exact⟨d,d0,λx y a b c l=>⟨h x y a b c l,f x y a b c DI⟩⟩
 . exact⟨e,g,λx y a b c l=>⟨h x y a b c DI,f x y a b c l⟩⟩
def Sh.mono(h:Sh B P)(e:∀x y,Wi B x->Wi B y->x<=y->P x y->Q x y):Sh B Q:=by
 obtain⟨d,d0,h⟩:=h;exact⟨d,d0,λx y a b c l=>e x y a b c (h x y a b c l)⟩
def Sh.all(h:∀x y,Wi B x->Wi B y->x<=y->P x y):Sh B P:=⟨1,DK,λx y a b c _=>h x y a b c⟩
end
def Ds(p:Ja)(x y:Rat):Prop:=0<ev p x*ev p y
theorem KS(p:Ja){B e:Rat}(m:0<=B)(n:0<e):Sh B λx y=>¬Ds p x y->Wi e (ev p x)/\Wi e (ev p y):=by
 obtain⟨K,i,h⟩:=WE p m;refine⟨e/K,Xh n i,λx y a b c l o=>?_⟩;have j:=h x y a b c;have k:K*(y-x)<=e:=by
  have:=Rat.mul_le_mul_of_nonneg_left l (Fy i);have q:K*(e/K)=e:=by rw[Fa,AB DI]
  grind
 have g:=j.mono k;have t:ev p x*ev p y<=0:=Rat.not_lt.1 o;have r:=g.1;have s:=g.2;rcases Xs 0 (ev p x)with p1|p1<;>rcases Xs 0 (ev p y)with f|f
 . rcases A6.1 p1 with d|d
   . rcases A6.1 f with q2|q2
     . have:=Cb d q2;grind
     . constructor<;>constructor<;>grind
   . constructor<;>constructor<;>grind
 . constructor<;>constructor<;>grind
 . constructor<;>constructor<;>grind
 . rcases A6.1 p1 with d|d
   . rcases A6.1 f with q2|q2
     . have:=Cb (a:=- ev p x) (b:=- ev p y) DI DI;grind
     . constructor<;>constructor<;>grind
   . constructor<;>constructor<;>grind
end
section
def Eb:Rat->Ja->Nat
 |_,[]=>0
 |a,b::l=>if b=0 then Eb a l else(if a*b<0 then 1 else 0)+Eb b l
def Dc(l:Ja):Nat:=Eb 0 l
def Xy(l:List Ja)(x:Rat):Ja:=l.map λp=>ev p x
variable{a b:Rat}
def Yr(p:Ja)(l:List Ja)(x:Rat):Xy (p::l) x=ev p x::Xy l x:=rfl
theorem WF(h:a<0)(c:0<=b):a*b<=0:=by
 have:=Ao (a:=-a) (b:=b) DI c;grind
theorem RD(h:a<0)(c:0<=b)(d:0<a*b):False:=by have:=WF h c;grind
theorem OH{c d:Rat}(h:0<a*c)(j:0<b*d):a*b<0↔c*d<0:=by
 have g:0<(a*b)*(c*d):=by have:=Cb h j;grind
 constructor
 . intro i;rcases Xs 0 (c*d)with f|f
   . exact(RD i f g).elim
   . rcases A6.1 f with e|e
     . exact e
     . rw[e]at g;grind
 . intro i;rcases Xs 0 (a*b)with f|f
   . grind[RD]
   . rcases A6.1 f with e|e
     . exact e
     . rw[e]at g;grind
theorem XR(h:0<a*b):a≠0/\b≠0:=⟨λe=>by rw[e]at h;grind,λe=>by rw[e]at h;grind⟩
theorem WG(h:a*b<0):a≠0/\b≠0:=⟨λe=>by rw[e]at h;grind,λe=>by rw[e]at h;grind⟩
theorem IP(h:b≠0)(l:Ja):Eb a (b::l)=(if a*b<0 then 1 else 0)+Eb b l:=by
 rw[Eb,BD h]
theorem RE{g h:Rat}(i:a*h<0)(l:Ja):Eb a (g::h::l)=1+Eb h l:=by
 obtain⟨k,d⟩:=WG i;by_cases c:g=0
 . rw[Eb,BG c,IP d,BG i]
 . rw[IP c,IP d];have j:0<g*g:=by
    rcases Xs 0 g with e|e
    . grind[Cb]
    . rcases A6.1 e with f|f
      . have:=Cb (a:=-g) (b:=-g) DI DI;grind
      . exact absurd f c
   have m:(a*g)*(g*h)<0:=by
    have:=Cb (a:=-(a*h)) (b:=g*g) DI j;grind
   by_cases p:a*g<0
   . have:¬g*h<0:=λq=>by
      have:=Cb (a:=-(a*g)) (b:=-(g*h)) DI DI;grind
     grind
   grind[Ao,Rat.not_lt]
def RF(x y:Rat):List Ja->Prop
 |[]=>False
 |[f]=>Ds f x y
 |[_,g]=>Ds g x y
 |f::g::h::l=>(Ds f x y\/Ds g x y)/\(¬Ds g x y->ev f x*ev h x<0/\ev f y*ev h y<0)/\RF x y (g::h::l)
structure Gd(x y:Rat)(l:List Ja):Prop where
 o:RF x y l
section
variable {x y:Rat}
variable{l:List Ja}{f g:Ja}{a:Rat}
def Gd.adj(h:Gd x y (f::g::l)):Ds f x y\/Ds g x y:=by
 match l,h with
 |[],h=>exact Au h.o
 |_::_,h=>exact h.o.1
def Gd.tail(h:Gd x y (f::g::l)):Gd x y (g::l):=by
 match l,h with
 |[],h=>exact⟨h.o⟩
 |_::_,h=>exact⟨h.o.2.2⟩
def Gd.same:∀(n:Nat) (l:List Ja) (f:Ja),l.length<=n->Gd x y (f::l)->Ds f x y->Eb (ev f x) (Xy l x)=Eb (ev f y) (Xy l y):=by
 intro n;induction n with
 |zero=>
  intro l f hl _ _
  have:l=[]:=Az.1 O
  subst this;rfl
 |succ n c=>
  intro l f hl hg d;match l,hl,hg with
  |[],_,_=>rfl
  |g::l,hl,hg=>
   by_cases a:Ds g x y
   . obtain⟨i,j⟩:=XR a;rw[Yr,Yr,IP i,IP j,c l g (by simp at hl;omega) hg.tail a];have:=OH d a;by_cases p:ev f x*ev g x<0
     . rw[BG p,BG (this.1 p)]
     . rw[BD p,BD λq=>p (this.2 q)]
   . match l,hl,hg with
     |[],_,hg=>exact absurd hg.o a
     |h::l,hl,hg=>
      have e:Ds h x y:=(hg.tail.adj).resolve_left a;have b:ev f x*ev h x<0/\ev f y*ev h y<0:=hg.o.2.1 a;rw[Yr,Yr,Yr,Yr,RE b.1,RE b.2,c l h (by simp at hl;omega) hg.tail.tail e]
theorem OI(h:a≠0)(l:Ja):Dc (a::l)=Eb a l:=by
 grind[Dc,IP]
theorem MJ{b:Rat}(h:b≠0)(l:Ja):Dc (a::b::l)=(if a*b<0 then 1 else 0)+Eb b l:=by
 grind[Dc,Eb,OI]
def Gd.stay(h:Gd x y (f::l))(a:Ds f x y):Dc (Xy (f::l) x)=Dc (Xy (f::l) y):=by
 obtain⟨b,c⟩:=XR a;rw[Yr,Yr,OI b,OI c];exact h.same _ l f (Aa _) a
theorem Gd.both{m:List Ja}(h:Gd x y (f::l))(c:Gd x y (g::m)){k:Rat}(C:k≠0)(p:∀x,ev f x=k*ev g x)
(o:¬Ds g x y->∀f1 l1 d n,l=f1::l1->m=d::n->0<k*ev f1 x*ev d x/\0<k*ev f1 y*ev d y):
 Dc (Xy (f::l) x)+Dc (Xy (g::m) y)=Dc (Xy (f::l) y)+Dc (Xy (g::m) x):=by
 have E:0<k*k:=by
  rcases Xs 0 k with i|i
  . grind[Cb]
  . rcases A6.1 i with c|c
    . have:=Cb (a:=-k) (b:=-k) DI DI;grind
    . exact absurd c C
 have s:ev f x*ev f y=(k*k)*(ev g x*ev g y):=by rw[p,p];grind
 by_cases e:Ds g x y
 . have j:Ds f x y:=by unfold Ds at *;rw[s];exact Cb E e
   have:=h.stay j;have:=c.stay e;omega
 . have j:¬Ds f x y:=λq=>e (by
    unfold Ds at *;rw[s]at q;rcases Xs (ev g x*ev g y) 0 with r|r
    . have:=Ao (a:=k*k) (b:=-(ev g x*ev g y)) DI DI;grind
    . rcases A6.1 r with r|r
      . exact r
      . rw[<-r]at q;grind)
   match l,m,h,c,o e with
   |[],_,h,_,_=>exact absurd h.o j
   |_::_,[],_,c,_=>exact absurd c.o e
   |f1::l1,d::n,h,c,o=>
    obtain⟨p1,K⟩:=o f1 l1 d n J J;have v:=(h.adj).resolve_left j;have w:=(c.adj).resolve_left e;obtain⟨F,G⟩:=XR v;obtain⟨H,I⟩:=XR w;rw[Yr,Yr,Yr,Yr,Yr,Yr,Yr,Yr,MJ F,MJ G,MJ H,MJ I,h.tail.same _ l1 f1 (Aa _) v,c.tail.same _ n d (Aa _) w];have t:∀z,0<k*ev f1 z*ev d z->(ev f z*ev f1 z<0↔ev g z*ev d z<0):=λz D=>by
     have A:ev f z*ev f1 z=ev g z*(k*ev f1 z):=by rw[p];grind
     rw[A];by_cases u:ev g z=0
     . rw[u];grind
     . have B:0<ev g z*ev g z:=by
        rcases Xs 0 (ev g z)with i|i
        . grind[Cb]
        . rcases A6.1 i with c|c
          . have:=Cb (a:=-(ev g z)) (b:=-(ev g z)) DI DI;grind
          . exact absurd c u
       exact OH B D
    grind
end
end
def RG:List Ja->Prop
 |[]=>False
 |[f]=>∃c:Rat,c≠0/\∀x,ev f x=c
 |[_,g]=>∃c:Rat,c≠0/\∀x,ev g x=c
 |f::g::h::l=>(∃(q:Ja) (a c:Rat),0<a/\0<c/\∀x,a*ev f x=ev q x*ev g x-c*ev h x)/\RG (g::h::l)
structure StC(l:List Ja):Prop where
 o:RG l
variable{f g p:Ja}{U V a c e i u v w:Rat}
theorem StC.one(h:c≠0)(k:∀x,ev f x=c):StC [f]:=⟨⟨c,h,k⟩⟩
def StC.two(h:c≠0)(k:∀x,ev g x=c):StC [f,g]:=⟨⟨c,h,k⟩⟩
def StC.more{h q:Ja}{l:List Ja}(b:0<a)(d:0<c)(k:∀x,a*ev f x=ev q x*ev g x-c*ev h x)(n:StC (g::h::l)):StC (f::g::h::l):=⟨⟨⟨q,a,c,b,d,k⟩,n.o⟩⟩
def OJ:(0:Rat)<1/4:=DI
theorem J9(c x:Rat):ev [c] x=c:=by simp[ev];grind
theorem LG(g:c≠0)(h:∀x,ev f x=c)(x y:Rat):Ds f x y:=by
 unfold Ds;rw[h,h];rcases Xs 0 c with d|d
 . grind[Cb]
 . rcases A6.1 d with e|e
   . have:=Cb (a:=-c) (b:=-c) DI DI;grind
   . exact absurd e g
theorem StC.cop:∀ {f g:Ja} {l:List Ja},StC (f::g::l)->∃u v:Ja,∀x,ev u x*ev f x+ev v x*ev g x=1
 |_,_,[],⟨⟨c,b,d⟩⟩=>by
  refine⟨[],[1/c],λx=>?_⟩;grind[ev]
 |f,g,h::l,⟨⟨⟨q,a,c,j,b,d⟩,i⟩⟩=>by
  have e:StC (g::h::l):=⟨i⟩;obtain⟨u,v,m⟩:=StC.cop e;have k:c≠0:=DI
  refine⟨Jv [-(a/c)] v,Xc u (Jv [1/c] (Jv v q)),λx=>?_⟩;grind[Ji,YF,ev]
theorem RH{f g:Rat}(h:u*f+v*g=1)(b:Wi U u)(a:Wi e f)(c:U*e<=1/4):3/4<=v*g:=by
 have:=(b.mul a).2;grind
theorem StC.gd{B:Rat}(j:0<=B):∀ {l:List Ja},StC l->Sh B λx y=>Gd x y l
 |[_],⟨⟨_,m,k⟩⟩=>Sh.all λx y _ _ _=>⟨LG m k x y⟩
 |[_,_],⟨⟨_,m,k⟩⟩=>Sh.all λx y _ _ _=>⟨LG m k x y⟩
 |f::g::h::l,⟨⟨⟨q,a,c,ha,m,k⟩,ad⟩⟩=>by
  have n:StC (g::h::l):=⟨ad⟩;have t:=StC.gd j n;obtain⟨u,v,ae⟩:=(StC.more ha m k n).cop;obtain⟨u2,A,ah⟩:=n.cop;obtain⟨U1,p1,S⟩:=FY u j;obtain⟨U2,p2,T⟩:=FY v j;obtain⟨U,p3,V⟩:=FY u2 j;obtain⟨i,w,W⟩:=FY A j;obtain⟨Q,N,R⟩:=FY q j;have d:∀ {r K:Rat},0<r->0<K->K*(r/K)=r:=λ_ hK=>by grind
  have E:=(((KS f j (Xh OJ p1)).and (KS g j (Xh OJ p2))).and ((KS g j (Xh OJ p3)).and (KS g j (Xh (Xh (show(0:Rat)<c/2 by grind) w) N)))).and t;refine E.mono λx y M hy ai ⟨⟨⟨tf,tg⟩,ak,am⟩,t⟩=>?_;refine⟨⟨?_,λn=>?_,t.o⟩⟩
  . by_cases P:Ds f x y
    . exact An P
    . by_cases sg:Ds g x y
      . exact Au sg
      . exfalso
        have D:=RH (ae x) (S x M) (tf P).1 DI;have o:=((T x M).mul (tg sg).1).2;grind
  . have aj:∀z,Wi B z->Wi (1/4/U) (ev g z)->Wi (c/2/i/Q) (ev g z)->ev f z*ev h z<0:=λz p w1 w2=>by
     have D:=RH (ah z) (V z p) w1 DI;have o:=(R z p).mul w2;rw[d (Xh (show(0:Rat)<c/2 by grind) w) N]at o;have F:=k z;have G:=W z p;have H:Wi (c/2) (i*(ev q z*ev g z)):=by
      have:=(show Wi i i from⟨DI,DI⟩).mul o;rwa[d (show(0:Rat)<c/2 by grind) w]at this
     have C:ev h z≠0:=λe=>by rw[e]at D;grind
     rcases Xs 0 (ev h z)with s|s
     . have s:0<ev h z:=by
        rcases A6.1 s with s|s
        . exact s
        . exact absurd s.symm C
       have X:3/4<=i*ev h z:=by
        have:=Ao (a:=i-ev A z) (b:=ev h z) (by have:=G.2;grind) DI;grind
       have I:i*(a*ev f z)<0:=by
        rw[F];have:=Ao (a:=c) (b:=i*ev h z-3/4) DI DI;have:=H.2;grind
       have L:ev f z<0:=by
        rcases Xs 0 (ev f z)with r|r
        . have:=Ao (a:=i*a) (b:=ev f z) (Ao DI DI) r;grind
        . rcases A6.1 r with r|r
          . exact r
          . rw[r]at I;grind
       have:=Cb (a:=-ev f z) (b:=ev h z) DI s;grind
     . have s:ev h z<0:=by
        rcases A6.1 s with s|s
        . exact s
        . exact absurd s C
       have X:i*ev h z<=-(3/4):=by
        have:=Ao (a:=i+ev A z) (b:=-ev h z) (by have:=G.1;grind) DI;grind
       have I:0<i*(a*ev f z):=by
        rw[F];have:=Ao (a:=c) (b:=-(i*ev h z)-3/4) DI DI;have:=H.1;grind
       have L:0<ev f z:=by
        rcases Xs (ev f z) 0 with r|r
        . have:=Ao (a:=i*a) (b:=-ev f z) (Ao DI DI) DI;grind
        . grind
       have:=Cb (a:=ev f z) (b:=-ev h z) L DI;grind
    grind
theorem steps{d:Rat}(i:0<d)(a b:Rat):∃n:Nat,b-a<=(n:Rat)*d:=by
 obtain⟨q,hq⟩:=ex ((b-a)/d);refine⟨q.ceil.toNat,?_⟩;have e:b-a=q*d:=by rw[<-hq,AB DI]
 rw[e];have g:q<=(q.ceil.toNat:Rat):=by
  have c:q<=(q.ceil:Rat):=Rat.le_ceil;have f:(q.ceil:Rat)<=((q.ceil.toNat:Int):Rat):=Rat.intCast_le_intCast.2 (Int.self_le_toNat _);exact Rat.le_trans c f
 have:=Ao (a:=(q.ceil.toNat:Rat)-q) (b:=d) DI DI;grind
theorem glue{B:Rat}{F G:Rat->Nat}(h:Sh B λx y=>F x+G y=F y+G x){b:Rat}(c:Wi B a)(i:Wi B b)(e:a<=b):F a+G b=F b+G a:=by
 obtain⟨d,d0,h⟩:=h;obtain⟨n,k⟩:=steps d0 a b
 have:∀(n:Nat) (a:Rat),Wi B a->a<=b->b-a<=(n:Rat)*d->F a+G b=F b+G a:=by
  intro n;induction n with
  |zero=>
   intro a c e f;grind
  |succ n m=>
   intro a c e f;have j:((n+1:Nat):Rat)=(n:Rat)+1:=by rw[Rat.natCast_add];rfl
   rw[j]at f;rcases Xs (b-a) d with g|g
   . exact h a b c i e g
   . have l:Wi B (a+d):=⟨by have:=c.1;grind,by have:=i.2;grind⟩;grind
 exact this n a c e k
theorem Is(a:Rat):0<=a*a:=by
 rcases Xs 0 a with h|h
 . exact Ao h h
 . have:=Ao (a:=-a) (b:=-a) DI DI;grind
theorem RI(h:Wi V v):v*v<=V*V:=by
 have:=Ao (a:=V-v) (b:=V+v) (by have:=h.2;grind) (by have:=h.1;grind);grind
theorem WH{y f c g d:Rat}(m:Wi U u)(n:Wi V v)(p:Wi c y)(j:Wi e a)(l:Wi g i)(q:Wi d f)(C:u*w+v*y=1)(o:w=a*i)
(r:U*(e*g)<=1/4)(s:(V*V)*(e*(c*d))<=1/16):1/2<=(V*V)*(y*(y-a*f)):=by
 have k:=(m.mul (j.mul l)).2;rw[<-o]at k;have t:3/4<=v*y:=DI
 have x:=Ao (a:=V*V-v*v) (b:=y*y) (by have:=RI n;grind) (Is y);have z:=Ao (a:=v*y-3/4) (b:=v*y+3/4) DI DI;have A:=(j.mul (p.mul q)).2;have B:=Ao (a:=V*V) (b:=e*(c*d)-a*(y*f)) (Is V) DI;grind
theorem WI{y j c f A A1 d g n:Rat}(H:Wi U u)(s:Wi V v)(r:Wi A a)(F:Wi A1 i)(p:Wi e j)(k:Wi d c)(x:Wi g f)(ad:u*w+v*y=1)(I:w=a*j)
(m:y=i*j+a*(c+f))(hn:0<n)(hp:n<=f*c)(K:U*(A*e)<=1/4)(L:V*(A1*e)<=1/4)
(B:((V*(d+g))*(V*(d+g)))*((A1*e)*(A*(d+d+g)))<=n/8):n/8<=((V*(d+g))*(V*(d+g)))*(y*(i*j+a*c)):=by
 obtain⟨M,E⟩:=ex (V*(d+g));have l:=s.mul (k.add x);rw[E]at l B ⊢;have C:=(H.mul (r.mul p)).2;rw[<-I]at C;obtain⟨t,G⟩:=ex (i*j);have o:=F.mul p;rw[G]at o m ⊢;have T:=(s.mul o).2;have D:v*y=v*t+a*(v*(c+f)):=by rw[m];grind
 obtain⟨q,hq⟩:=ex (v*(c+f));rw[hq]at D l;have W:1/2<=a*q:=DI
 have X:=Ao (a:=a*a) (b:=M*M-q*q) (Is a) (by have:=RI l;grind);have h7:=Ao (a:=a*q-1/2) (b:=a*q+1/2) DI DI;have h8:1/4<=(a*a)*(M*M):=DI
 have h9:=Ao (a:=(a*a)*(M*M)-1/4) (b:=n) DI DI;have N:=Ao (a:=(a*a)*(M*M)) (b:=f*c-n) DI DI;have P:=Ao (a:=(a*a)*(M*M)) (b:=c*c) DI (Is c);have Q:=Ao (a:=M*M) (b:=t*t) (Is M) (Is t);have R:=(o.mul (r.mul ((k.add k).add x))).1;have S:=Ao (a:=M*M) (b:=t*(a*(c+c+f))+(A1*e)*(A*(d+d+g))) (Is M) DI;have z:y*(t+a*c)=t*t+t*(a*(c+c+f))+(a*a)*(c*c)+(a*a)*(f*c):=by rw[m];grind
 rw[z];grind
theorem small{K r:Rat}(d:0<=K)(c:0<r):∃e,0<e/\∀f,f<=e->K*f<=r:=by
 refine⟨r/(K+1),Xh c DI,λf k=>?_⟩;have g:r/(K+1)*(K+1)=r:=AB DI;have i:=Ao (a:=K) (b:=r/(K+1)-f) d DI;have j:=Xh c (show(0:Rat)<K+1 by grind);grind
theorem RJ{s:Rat}(C:s*s=1):∀(p:Ja),Jc p=p->p≠[]->∃B e:Rat,0<B/\0<e/\∀x,B<=x->e<=s^(p.length-1)*cf p (p.length-1)*ev p (s*x):=by
 intro p;induction p with
 |nil=>intro _ h;exact absurd J h
 |cons c t o=>
  intro tp p0;by_cases d:t=[]
  . subst d;have c0:c≠0:=by
     have:=Jt tp p0;simpa[cf]using this
    refine⟨1,c*c,DK,?_,λx _=>?_⟩
    . have:=LG (f:=[c]) c0 (λx=>J9 c x) 0 0;unfold Ds at this;rwa[J9]at this
    . rw[J9];simp[cf]
  . have q:Jc t=t:=by
     refine Q3 (Au ?_);have:=Jt tp p0;have hl:=Ac.2 d;rw[Ah,show t.length+1-1=(t.length-1)+1 by omega,Yf]at this;exact this
    obtain⟨B,e,A,g,h⟩:=o q d;have hl:=Ac.2 d;obtain⟨n,i⟩:∃n,t.length=n+1:=⟨t.length-1,O⟩;have m:cf (c::t) ((c::t).length-1)=cf t n:=by
     rw[Ah,i,show n+1+1-1=n+1 by omega,Yf]
    rw[m,Ah,i,show n+1+1-1=n+1 by omega];rw[i,show n+1-1=n by omega]at h;generalize cf t n=k at *;obtain⟨D,hD,l⟩:=LF (s^(n+1)*k*c);refine⟨B+(D+e)/e,e,?_,g,λx E=>?_⟩
    . have:=Xh (a:=D+e) (b:=e) DI g;grind
    . have r:=Xh (a:=D+e) (b:=e) DI g;have u:=h x DI;have v:(D+e)/e*e=D+e:=AB DI;rw[OG];have j:s^(n+1)*k*(c+s*x*ev t (s*x))=s^(n+1)*k*c+x*(s^n*k*ev t (s*x)):=by
       rw[Rat.pow_succ];grind
      rw[j];have w:=Ao (a:=x) (b:=s^n*k*ev t (s*x)-e) DI DI;have y:=Ao (a:=x-(D+e)/e) (b:=e) DI DI;have z:=l.1;grind
theorem WJ(tp:Jc p=p)(p0:p≠[]):∃B,0<B/\∀x,B<=x->0<cf p (p.length-1)*ev p x:=by
 obtain⟨B,e,a,f,b⟩:=RJ (s:=1) DI p tp p0;refine⟨B,a,λx c=>?_⟩;have g:=b x c;have d:∀n:Nat,(1:Rat)^n=1:=λn=>by
  induction n with
  |zero=>rfl
  |succ n i=>grind
 grind
theorem WK(tp:Jc p=p)(p0:p≠[]):∃B,0<B/\∀x,x<=-B->0<(-1)^(p.length-1)*cf p (p.length-1)*ev p x:=by
 obtain⟨B,e,a,d,b⟩:=RJ (s:=-1) DI p tp p0;refine⟨B,a,λx f=>?_⟩;have c:=b (-x) DI;rw[show(-1:Rat)*-x=x by grind]at c;grind
theorem RK:∀(l m:Ja) (a b:Rat),l.length=m.length->(∀i (k:i<l.length) (e:i<m.length),0<l[i]*m[i])->(0<a*b\/(a=0/\b=0))->Eb a l=Eb b m:=by
 intro l;induction l with
 |nil=>intro m a b h _ _;cases m with|nil=>rfl|cons=>simp at h
 |cons c l n=>
  intro m a b h e f;cases m with
  |nil=>simp at h
  |cons d m=>
   have g:0<c*d:=e 0 DG DG;obtain⟨o,p⟩:=XR g;have j:=n m c d (by simpa using h) (λi k q=>e (i+1) si si) (An g);rw[IP o,IP p,j];rcases f with f|⟨rfl,rfl⟩
   . grind[OH]
   grind

