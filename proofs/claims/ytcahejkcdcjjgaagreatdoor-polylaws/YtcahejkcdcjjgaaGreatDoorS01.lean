import Derived.Test.YtcahejkcdcjjgaaGreatDoorS00
set_option linter.all false
set_option maxRecDepth 99999
set_option maxHeartbeats 0
namespace Go.Proofs.YtcahejkcdcjjgaaGreatDoor
open List renaming replicate->WT
def Br:=@if_pos
def Bk:=@if_neg
def cf(p:Y)(i:Nat):Rat:=p[i]?.getD 0
variable{p q:Y}{i n:Nat}
theorem Yq(i:Nat):cf [] i=0:=by simp[cf]
theorem J5(c:Rat)(t:Y):cf (c::t) 0=c:=by simp[cf]
theorem JN(c:Rat)(t:Y)(i:Nat):cf (c::t) (i+1)=cf t i:=by simp[cf]
theorem J2(h:p.length<=i):cf p i=0:=by simp[cf,List.getElem?_eq_none h]
def KO(h:i<p.length):cf p i=p[i]:=by simp[cf,List.getElem?_eq_getElem h]
theorem XD(p:Y)(k:Nat)(c:Rat)(i:Nat)(a:k<p.length):cf (p.set k c) i=if i=k then c else cf p i:=by
 grind[cf]
theorem JQ(n:Nat)(i:Nat):cf (WT n 0) i=0:=by
 grind[cf]
theorem PO(n:Nat)(f:Nat->Rat)(i:Nat):cf ((List.range n).map f) i=if i<n then f i else 0:=by
 grind[cf]
theorem KP(p:Y)(n i:Nat):cf (p.take n) i=if i<n then cf p i else 0:=by
 grind[cf]
def Jh:Y->Y
 |[]=>[]
 |c::t=>match Jh t with
  |[]=>if c=0 then []else [c]
  |d::s=>c::d::s
theorem JU(p:Y)(i:Nat):cf (Jh p) i=cf p i:=by
 induction p generalizing i with
 |nil=>rfl
 |cons c t b=>
  have a:=b;rw[Jh];split
  . rename_i h;rw[h]at a;cases i with
    |zero=>split<;>simp_all [cf]
    |succ i=>
     grind[JN,Yq]
  . rename_i d s h;rw[<-h];cases i with
    |zero=>rfl
    |succ i=>rw[JN,JN,a]
theorem KQ(h:∀i,cf p i=0):Jh p=[]:=by
 induction p with
 |nil=>rfl
 |cons c t a=>
  have b:=a (λi=>by rw[<-JN c t i];exact h (i+1));grind[J5,Jh]
theorem X8(h:∀i,cf p i=cf q i):Jh p=Jh q:=by
 induction p generalizing q with
 |nil=>grind[KQ,Yq]
 |cons c t e=>
  cases q with
  |nil=>grind[KQ,Yq]
  |cons d s=>
   have a:c=d:=by have:=h 0;rwa[J5,J5]at this
   have b:=e (q:=s) (λi=>by have:=h (i+1);rwa[JN,JN]at this);rw[Jh,Jh,a,b]
def Yy(p:Y):Jh (Jh p)=Jh p:=X8 (JU p)
theorem JV(p:Y):(Jh p).length<=p.length:=by
 induction p with
 |nil=>exact Aa _
 |cons c t a=>
  grind[Jh]
theorem JX(h:Jh p=p)(a:p≠[]):cf p (p.length-1)≠0:=by
 induction p with
 |nil=>exact absurd J a
 |cons c t b=>
  grind[Jh,cf]
theorem KR(h:p=[]\/cf p (p.length-1)≠0):Jh p=p:=by
 induction p with
 |nil=>rfl
 |cons c t a=>
  grind[Jh,cf]
theorem PP(c:n<=p.length)(a:n=0\/cf p (n-1)≠0)(b:∀j,n<=j->cf p j=0):Jh p=p.take n:=by
 have e:Jh p=Jh (p.take n):=X8 λi=>by
  grind[KP]
 grind[KR,KP]
theorem XE(h:∀j,n<=j->cf p j=0):(Jh p).length<=n:=by
 rcases AJ n (Jh p).length with a|a
 . have b:=JX (Yy p) De;grind[JU]
 . exact a
def ev:Y->Rat->Rat
 |[],_=>0
 |c::t,x=>c+x*ev t x
theorem Gl(h:∀i,cf p i=0)(x:Rat):ev p x=0:=by
 induction p with
 |nil=>rfl
 |cons c t a=>
  have b:=a (λi=>by rw[<-JN c t i];exact h (i+1));grind[J5,ev]
theorem Gm(h:∀i,cf p i=cf q i)(x:Rat):ev p x=ev q x:=by
 induction p generalizing q with
 |nil=>grind[Gl,Yq]
 |cons c t e=>
  cases q with
  |nil=>grind[Gl,Yq]
  |cons d s=>
   have a:c=d:=by have:=h 0;rwa[J5,J5]at this
   have b:=e (q:=s) (λi=>by have:=h (i+1);rwa[JN,JN]at this);rw[ev,ev,a,b]
theorem Xu(p:Y)(x:Rat):ev (Jh p) x=ev p x:=Gm (JU p) x
def dv:Y->Rat->Rat
 |[],_=>0
 |_::t,x=>ev t x+x*dv t x
theorem MF(h:∀i,cf p i=0)(x:Rat):dv p x=0:=by
 induction p with
 |nil=>rfl
 |cons c t b=>
  have a:∀i,cf t i=0:=λi=>by rw[<-JN c t i];exact h (i+1)
  rw[dv,b a,Gl a];grind
theorem PQ(h:∀i,cf p i=cf q i)(x:Rat):dv p x=dv q x:=by
 induction p generalizing q with
 |nil=>grind[MF,Yq]
 |cons c t b=>
  cases q with
  |nil=>grind[MF,Yq]
  |cons d s=>
   have a:∀i,cf t i=cf s i:=λi=>by have:=h (i+1);rwa[JN,JN]at this
   rw[dv,dv,b a,Gm a]
def Fe:Y->Rat->Y
 |[],_=>[]
 |_::t,a=>match t with
  |[]=>[]
  |d::s=>ev (d::s) a::Fe (d::s) a
def PR(p:Y)(a:Rat):(Fe p a).length=p.length-1:=by
 induction p with
 |nil=>rfl
 |cons c t b=>
  cases t with
  |nil=>rfl
  |cons d s=>
   rw[Fe,Ag,b];simp
theorem MG(p:Y)(a x:Rat):ev p x=ev p a+(x-a)*ev (Fe p a) x:=by
 induction p with
 |nil=>simp[ev,Fe];grind
 |cons c t b=>
  cases t with
  |nil=>simp[ev,Fe];grind
  |cons d s=>
   grind[Fe,ev]
theorem PS{m:Nat}(h:∀n:Nat,m<=n->ev p (n:Rat)=0)(x:Rat):ev p x=0:=by
 obtain⟨k,a⟩:=ex (p.length);induction k generalizing p m with
 |zero=>
  have:p=[]:=As a
  rw[this];rfl
 |succ k e=>
  have b:=h m (Aa _);have c:∀n:Nat,m+1<=n->ev (Fe p m) (n:Rat)=0:=λn f=>by
   grind[MG,Rat.natCast_inj]
  have d:=e c (by rw[PR,a];rfl);rw[MG p (m:Rat) x,b,d];grind
theorem PT(h:∀x,ev p x=0)(i:Nat):cf p i=0:=by
 induction p generalizing i with
 |nil=>rfl
 |cons c t g=>
  have a:c=0:=by have:=h 0;rw[ev]at this;grind
  have b:∀x,ev t x=0:=λx=>PS (m:=1) (λn k=>by
   have d:=h (n:Rat);rw[ev,a]at d;have j:(n:Rat)≠0:=λe=>by
    have f:(n:Rat)=((0:Nat):Rat):=e;have:=Rat.natCast_inj.1 f;omega
   grind) x
  cases i with
  |zero=>rw[J5];exact a
  |succ i=>rw[JN];exact g b i
def Y7:Y->Y->Y
 |[],q=>q
 |p,[]=>p
 |c::t,d::s=>(c+d)::Y7 t s
def YC(a:Rat)(p:Y):Y:=p.map λc=>c*a
def D0:Y->Y->Y
 |[],_=>[]
 |c::t,q=>Y7 (YC c q) (0::D0 t q)
theorem XQ(p q:Y)(i:Nat):cf (Y7 p q) i=cf p i+cf q i:=by
 induction p generalizing q i with
 |nil=>rw[Y7,Yq];grind
 |cons c t a=>
  cases q with
  |nil=>
   grind[Y7,Yq]
  |cons d s=>
   rw[Y7];cases i with
   |zero=>simp[cf]
   |succ i=>rw[JN,JN,JN,a]
theorem XB(a:Rat)(p:Y)(i:Nat):cf (YC a p) i=cf p i*a:=by
 grind[cf,YC]
theorem Xh(p q:Y)(x:Rat):ev (Y7 p q) x=ev p x+ev q x:=by
 induction p generalizing q with
 |nil=>rw[Y7,ev];grind
 |cons c t a=>
  cases q with
  |nil=>
   grind[Y7,ev]
  |cons d s=>rw[Y7,ev,ev,ev,a];grind
theorem YP(a:Rat)(p:Y)(x:Rat):ev (YC a p) x=ev p x*a:=by
 induction p with
 |nil=>simp[YC,ev]
 |cons c t b=>
  grind[YC,ev]
theorem KS(p q:Y)(x:Rat):ev (D0 p q) x=ev p x*ev q x:=by
 induction p with
 |nil=>rw[D0,ev];grind
 |cons c t a=>rw[D0,Xh,YP,ev,ev,a];grind
theorem PU(p q:Y)(x:Rat):dv (Y7 p q) x=dv p x+dv q x:=by
 induction p generalizing q with
 |nil=>rw[Y7,dv];grind
 |cons c t a=>
  cases q with
  |nil=>
   grind[Y7,dv]
  |cons d s=>rw[Y7,dv,dv,dv,a,Xh];grind
theorem PV(a:Rat)(p:Y)(x:Rat):dv (YC a p) x=dv p x*a:=by
 induction p with
 |nil=>simp[YC,dv]
 |cons c t b=>
  grind[YC,dv,YP]
theorem PW(p q:Y)(x:Rat):dv (D0 p q) x=dv p x*ev q x+ev p x*dv q x:=by
 induction p with
 |nil=>rw[D0,dv,ev];grind
 |cons c t a=>grind[D0,PU,PV,dv,ev,KS]
theorem IM(h:∀x,ev p x=ev q x):Jh p=Jh q:=by
 have a:∀i,cf (Y7 p (YC (-1) q)) i=0:=PT (λx=>by rw[Xh,YP,h x];grind);refine X8 λi=>?_;have:=a i;rw[XQ,XB]at this;grind
def sumN:Nat->(Nat->Rat)->Rat
 |0,_=>0
 |n+1,f=>sumN n f+f n
theorem KT{f:Nat->Rat}(h:∀k,k<n->f k=0):sumN n f=0:=by
 induction n with
 |zero=>rfl
 |succ n a=>grind[sumN]
theorem PX(n:Nat)(f:Nat->Rat):sumN (n+1) f=f 0+sumN n (λk=>f (k+1)):=by
 induction n with
 |zero=>simp[sumN];grind
 |succ n a=>rw[sumN,a,sumN];grind
def conv(p q:Y)(n k:Nat):Rat:=sumN n λi=>if i<=k then cf p i*cf q (k-i)else 0
theorem Fs(p q:Y)(k:Nat):cf (D0 p q) k=conv p q p.length k:=by
 induction p generalizing k with
 |nil=>rfl
 |cons c t a=>
  rw[D0,XQ,XB,conv,Ag,PX];rw[Br (AN _),J5,C2];have e:cf (0::D0 t q) k=sumN t.length (λi=>if i+1<=k then cf (c::t) (i+1)*cf q (k-(i+1))else 0):=by
   cases k with
   |zero=>
    grind[J5,KT]
   |succ k=>
    grind[JN,conv]
  rw[e];grind
theorem PY{k:Nat}(h:p.length+q.length<=k+1):cf (D0 p q) k=0:=by
 rw[Fs];refine KT λi a=>?_;grind[J2]
theorem PZ(p q:Y)(m n:Nat)(hp:p.length=m+1)(a:q.length=n+1):cf (D0 p q) (m+n)=cf p m*cf q n:=by
 grind[Fs,conv,sumN,KT,J2]
theorem X9(hp:Jh p=p)(k:Jh q=q)(d:p≠[])(e:q≠[]):(Jh (D0 p q)).length=p.length+q.length-1:=by
 have f:=JX hp d;have g:=JX k e;have m:0<p.length:=AG.2 d;have n:0<q.length:=AG.2 e;have i:=PZ p q (p.length-1) (q.length-1) Z Z;have b:cf (D0 p q) (p.length-1+(q.length-1))≠0:=by
  rw[i];intro c;rcases Rat.mul_eq_zero.1 c with a|a
  . exact f a
  . exact g a
 have c:(Jh (D0 p q)).length<=p.length+q.length-1:=XE λj l=>PY Z;rcases AJ (Jh (D0 p q)).length (p.length+q.length-1)with a|a
 . rw[<-JU]at b;exact absurd (J2 Z) b
 . omega
def Ft(p:Y):Y:=(List.range (p.length-1)).map λi=>cf p (i+1)*((i+1:Nat):Rat)
theorem Gn(p:Y)(i:Nat):cf (Ft p) i=cf p (i+1)*((i+1:Nat):Rat):=by
 grind[Ft,PO,J2]
theorem Pa(p:Y)(x:Rat):ev (Ft p) x=dv p x:=by
 induction p with
 |nil=>rfl
 |cons c t a=>
  have e:∀i,cf (Ft (c::t)) i=cf (Y7 t (0::Ft t)) i:=λi=>by
   rw[Gn,XQ,JN];cases i with
   |zero=>rw[J5];grind
   |succ i=>rw[JN,Gn];grind
  rw[Gm e,Xh,ev,a,dv];grind
def Pb(p:Y):Y7 p []=p:=by cases p<;>rfl
theorem MH{u v b a:Y}(p:Jh q=q)(r:q≠[])(s:Jh u=u)(t:Jh b=b)(w:Jh v=v)(y:Jh a=a)(z:v.length<q.length)(A:a.length<q.length)
(h:∀x,ev q x*ev u x+ev v x=ev q x*ev b x+ev a x):u=b/\v=a:=by
 obtain⟨d,c⟩:=ex (Jh (Y7 u (YC (-1) b)));have l:Jh d=d:=by rw[<-c,Yy]
 have m:∀x,ev d x=ev u x-ev b x:=λx=>by rw[<-c,Xu,Xh,YP];grind
 have e:∀x,ev (D0 d q) x=ev (Y7 a (YC (-1) v)) x:=λx=>by
  grind[KS,Xh,YP]
 have g:=IM e;have i:(Jh (Y7 a (YC (-1) v))).length<q.length:=by
  refine CA (XE (n:=q.length-1) λj o=>?_) Z;rw[XQ,XB,J2 Z,J2 Z];grind
 have k:d=[]:=by
  by_cases f:d=[]
  . exact f
  . grind[X9,AG]
 grind[ev,IM]
def Dq(i:Nat)(q:Y):Y:=WT i 0++q
theorem GO(i:Nat)(q:Y)(k:Nat):cf (Dq i q) k=if i<=k then cf q (k-i)else 0:=by
 grind[cf,Dq]
theorem IP(i:Nat)(q:Y)(x:Rat):ev (Dq i q) x=x^i*ev q x:=by
 induction i with
 |zero=>rw[show Dq 0 q=q from J];grind
 |succ i a=>
  grind[Dq,ev]
def Yb(z:Y)(i:Nat)(a:Rat)(q:Y):Nat->Y
 |0=>z
 |j+1=>(Yb z i a q j).set (i+j) (cf (Yb z i a q j) (i+j)+a*cf q j)
theorem YU(z:Y)(i:Nat)(a:Rat)(q:Y)(j:Nat):(Yb z i a q j).length=z.length:=by
 induction j with
 |zero=>rfl
 |succ j b=>rw[Yb,CS,b]
theorem Pc(z:Y)(i:Nat)(a:Rat)(q:Y)(j k:Nat)(h:i+j<=z.length):cf (Yb z i a q j) k=cf z k+(if i<=k/\k<i+j then a*cf q (k-i)else 0):=by
 induction j with
 |zero=>rw[Yb,Bk Z];grind
 |succ j b=>
  grind[Yb,XD,YU]
theorem KU(z:Y)(i:Nat)(a:Rat)(q:Y)(k:Nat)(h:i+q.length<=z.length):cf (Yb z i a q q.length) k=cf z k+a*cf (Dq i q) k:=by
 grind[Pc,GO,J2]
theorem Pd(z:Y)(i:Nat)(a:Rat)(q:Y)(x:Rat)(h:i+q.length<=z.length):ev (Yb z i a q q.length) x=ev z x+a*(x^i*ev q x):=by
 have e:∀k,cf (Yb z i a q q.length) k=cf (Y7 z (YC a (Dq i q))) k:=λk=>by
  grind[KU,XQ,XB]
 rw[Gm e,Xh,YP,IP];grind
def Yr(p q:Y)(n:Nat):Nat->Y
 |0=>WT n 0
 |i+1=>Yb (Yr p q n i) i (cf p i) q q.length
def KV(p q:Y)(n i:Nat):(Yr p q n i).length=n:=by
 induction i with
 |zero=>rw[Yr,AC]
 |succ i a=>rw[Yr,YU,a]
theorem KW(p q:Y)(n i k:Nat)(h:i=0\/i+q.length<=n+1):cf (Yr p q n i) k=conv p q i k:=by
 induction i with
 |zero=>rw[Yr,JQ];rfl
 |succ i a=>
  rw[Yr,KU _ _ _ _ _ (by rw[KV];omega),a Z,GO];show _=conv p q i k+_
  grind
def Jq(p q:Y)(n m:Nat):Nat->Y × Y
 |0=>(WT m 0,p)
 |k+1=>
  let s:=Jq p q n m k
  let i:=m-(k+1)
  let c:=cf s.2 (i+n)/cf q n
  (s.1.set i c,Yb s.2 i (-c) q q.length)
theorem J7(p q:Y)(n m k:Nat):(Jq p q n m k).1.length=m/\(Jq p q n m k).2.length=p.length:=by
 induction k with
 |zero=>exact⟨AC,J⟩
 |succ k a=>grind[Jq,YU]
theorem Pe(p:Y)(i:Nat)(c:Rat)(x:Rat)(b:i<p.length)(a:cf p i=0):ev (p.set i c) x=ev p x+c*x^i:=by
 have e:∀k,cf (p.set i c) k=cf (Y7 p (Dq i [c])) k:=λk=>by
  grind[XD,XQ,GO,J5,J2]
 rw[Gm e,Xh,IP];simp[ev];grind
theorem MI(p q:Y)(n m:Nat)(c:q.length=n+1)(hl:cf q n≠0)(b:m+n=p.length):∀k,k<=m->
 (∀x,ev p x=ev q x*ev (Jq p q n m k).1 x+ev (Jq p q n m k).2 x)/\(∀j,j<m-k->cf (Jq p q n m k).1 j=0)/\(∀j,m-k+n<=j->cf (Jq p q n m k).2 j=0):=by
 intro k;induction k with
 |zero=>
  intro _;grind[JQ,J2,Jq,Gl]
 |succ k d=>
  intro a;grind[J7,Jq,Pe,Pd,XD,KU,GO,J2]
def Y9(p q:Y):Y:=Jh (Jq p q (q.length-1) (p.length-(q.length-1)) (p.length-(q.length-1))).1
def XO(p q:Y):Y:=Jh (Jq p q (q.length-1) (p.length-(q.length-1)) (p.length-(q.length-1))).2
theorem IQ(p q:Y)(b:Jh q=q)(a:q≠[]):(∀x,ev p x=ev q x*ev (Y9 p q) x+ev (XO p q) x)/\(XO p q).length<q.length/\Jh (Y9 p q)=Y9 p q/\Jh (XO p q)=XO p q:=by
 have d:0<q.length:=AG.2 a;refine⟨λx=>?_,?_,Yy _,Yy _⟩
 . unfold Y9 XO;rw[Xu,Xu];by_cases h:q.length-1<=p.length
   . exact(MI p q (q.length-1) (p.length-(q.length-1)) Z (JX b a) Z _ (Aa _)).1 x
   . rw[show p.length-(q.length-1)=0 from by omega,Jq];grind[Gl,JQ]
 . unfold XO;refine CA (XE (n:=q.length-1) λj c=>?_) Z;by_cases h:q.length-1<=p.length
   . exact(MI p q (q.length-1) (p.length-(q.length-1)) Z (JX b a) Z _ (Aa _)).2.2 j Z
   . rw[show p.length-(q.length-1)=0 from by omega,Jq];exact J2 (by dsimp only;omega)
def Xa(p q:Y):Y:=Jh (Y7 p q)
def Eb(p q:Y):Y:=Jh (Y7 p (YC (-1) q))
def JM(p q:Y):Y:=Jh (D0 p q)
def Jy(p:Y):Y:=Jh (Ft p)
theorem Yz(p q:Y):Jh (Xa p q)=Xa p q:=Yy _
def KX(p q:Y):Jh (Eb p q)=Eb p q:=Yy _
def IR(p q:Y):Jh (JM p q)=JM p q:=Yy _
def Pf(p:Y):Jh (Jy p)=Jy p:=Yy _
theorem Xv(p q:Y)(x:Rat):ev (Xa p q) x=ev p x+ev q x:=by unfold Xa;rw[Xu,Xh]
theorem MJ(p q:Y)(x:Rat):ev (Eb p q) x=ev p x-ev q x:=by grind[Eb,Xu,Xh,YP]
theorem YV(p q:Y)(x:Rat):ev (JM p q) x=ev p x*ev q x:=by unfold JM;rw[Xu,KS]
def KY(p:Y)(x:Rat):ev (Jy p) x=dv p x:=by unfold Jy;rw[Xu,Pa]
theorem Fu(p q:Y)(i:Nat):cf (Xa p q) i=cf p i+cf q i:=by unfold Xa;rw[JU,XQ]
theorem KZ(p q:Y)(i:Nat):cf (Eb p q) i=cf p i-cf q i:=by grind[Eb,JU,XQ,XB]
theorem Pg(p q:Y):(Y7 p q).length=max p.length q.length:=by
 induction p generalizing q with
 |nil=>rw[Y7];simp
 |cons c t a=>
  cases q with
  |nil=>rw[Pb];simp
  |cons d s=>grind[Y7]
theorem Ka(p q:Y):(Xa p q).length<=max p.length q.length:=by
 have:=JV (Y7 p q);rw[Pg]at this;exact this
theorem IU(hp:Jh p=p)(a:Jh q=q)(h:∀x,ev p x=ev q x):p=q:=by rw[<-hp,<-a];exact IM h
theorem IV(p q:Y):Jy (JM p q)=Xa (JM (Jy p) q) (JM p (Jy q)):=by
 refine IU (Pf _) (Yz _ _) λx=>?_;rw[KY,Xv,YV,YV,KY,KY,<-PW];grind[PQ,JM,JU]
def J8(a:Rat):Y:=[a,1]
def JZ(a:Rat):Y->Y
 |[]=>[]
 |c::t=>Xa (JM (JZ a t) (J8 a)) (Jh [c])
def MK(a:Rat):Jh (J8 a)=J8 a:=KR (AE (by show cf [a,1] 1≠0;rw[JN,J5];decide))
def ML(a:Rat)(p:Y):Jh (JZ a p)=JZ a p:=by
 cases p with
 |nil=>rfl
 |cons c t=>exact Yz _ _
theorem IW(a:Rat)(p:Y)(x:Rat):ev (JZ a p) x=ev p (x+a):=by
 induction p with
 |nil=>rfl
 |cons c t b=>
  grind[JZ,Xv,YV,Xu,J8,ev]
theorem MN(a:Rat)(p:Y)(hp:Jh p=p):JZ (-a) (JZ a p)=p:=
 IU (ML _ _) hp λx=>by rw[IW,IW];congr 1;grind
theorem MO(a:Rat)(p:Y)(hp:Jh p=p):(JZ a p).length=p.length:=by
 induction p with
 |nil=>rfl
 |cons c t d=>
  by_cases g:t=[]
  . grind[JZ,IU,Yz,Xv,YV,ev]
  . have e:=JX hp DQ;have j:(c::t).length-1=(t.length-1)+1:=by
     have:0<t.length:=AG.2 g
     rw[Ag];omega
    rw[j,JN]at e;have i:Jh t=t:=KR (AE e);have d:=d i;have lt:0<t.length:=AG.2 g;have l:JZ a t≠[]:=λh=>by grind
    have k:=X9 (ML a t) (MK a) l (by unfold J8;simp);have b:(JM (JZ a t) (J8 a)).length=t.length+1:=by unfold JM;rw[k,d];rfl
    have f:=JX (IR (JZ a t) (J8 a)) (λh=>by rw[h]at b;simp at b);rw[b]at f;have m:cf (JZ a (c::t)) t.length≠0:=by
     rw[JZ,Fu,JU,J2 (p:=[c]) si];simp only[Nat.add_sub_cancel]at f;grind
    grind[JZ,Ka,JV,J2]
theorem Ph(p q:Y)(hp:Jh p=p)(a:Jh q=q)(b:q≠[]):Xa (JM (Y9 p q) q) (XO p q)=p:=
 IU (Yz _ _) hp λx=>by rw[Xv,YV,(IQ p q a b).1 x];grind
