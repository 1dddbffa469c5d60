import Derived.Test.YtcahejkcdcjjgaaGreatDoorW00
set_option linter.all false
set_option maxRecDepth 99999
set_option maxHeartbeats 0
namespace Go.Proofs.YtcahejkcdcjjgaaGreatDoor
open List renaming replicate->Zw
def BL:=@if_pos
def BH:=@if_neg
def cf(p:K)(i:Nat):Rat:=p[i]?.getD 0
variable{p q:K}{i k n:Nat}
theorem YZ(i:Nat):cf [] i=0:=by simp[cf]
theorem Yg(c:Rat)(t:K):cf (c::t) 0=c:=by simp[cf]
theorem Yb(c:Rat)(t:K)(i:Nat):cf (c::t) (i+1)=cf t i:=by simp[cf]
theorem JV(h:p.length<=i):cf p i=0:=by simp[cf,List.getElem?_eq_none h]
def Kf(h:i<p.length):cf p i=p[i]:=by simp[cf,List.getElem?_eq_getElem h]
theorem Kg(p:K)(c:Rat)(i:Nat):cf (p++[c]) i=if i=p.length then c else cf p i:=by
 grind[cf]
theorem XS(p:K)(k:Nat)(c:Rat)(i:Nat)(a:k<p.length):cf (p.set k c) i=if i=k then c else cf p i:=by
 grind[cf]
theorem J2(n:Nat)(i:Nat):cf (Zw n 0) i=0:=by
 grind[cf]
theorem MV(n:Nat)(f:Nat->Rat)(i:Nat):cf ((List.range n).map f) i=if i<n then f i else 0:=by
 grind[cf]
theorem Kh(p:K)(n i:Nat):cf (p.take n) i=if i<n then cf p i else 0:=by
 grind[cf]
def Jg:K->K
 |[]=>[]
 |c::t=>match Jg t with
  |[]=>if c=0 then []else [c]
  |d::s=>c::d::s
theorem J0(p:K)(i:Nat):cf (Jg p) i=cf p i:=by
 induction p generalizing i with
 |nil=>rfl
 |cons c t b=>
  have a:=b;rw[Jg];split
  . rename_i h;rw[h]at a;cases i with
    |zero=>split<;>simp_all [cf]
    |succ i=>
     grind[Yb,YZ]
  . rename_i d s h;rw[<-h];cases i with
    |zero=>rfl
    |succ i=>rw[Yb,Yb,a]
theorem IM(h:∀i,cf p i=0):Jg p=[]:=by
 induction p with
 |nil=>rfl
 |cons c t a=>
  have b:=a (λi=>by rw[<-Yb c t i];exact h (i+1));grind[Yg,Jg]
theorem Yt(h:∀i,cf p i=cf q i):Jg p=Jg q:=by
 induction p generalizing q with
 |nil=>grind[IM,YZ]
 |cons c t e=>
  cases q with
  |nil=>grind[IM,YZ]
  |cons d s=>
   have a:c=d:=by have:=h 0;rwa[Yg,Yg]at this
   have b:=e (q:=s) (λi=>by have:=h (i+1);rwa[Yb,Yb]at this);rw[Jg,Jg,a,b]
def YS(p:K):Jg (Jg p)=Jg p:=Yt (J0 p)
theorem J3(p:K):(Jg p).length<=p.length:=by
 induction p with
 |nil=>exact Aa _
 |cons c t a=>
  grind[Jg]
theorem YT(h:Jg p=p)(a:p≠[]):cf p (p.length-1)≠0:=by
 induction p with
 |nil=>exact absurd J a
 |cons c t b=>
  grind[Jg,cf]
theorem MW(h:p=[]\/cf p (p.length-1)≠0):Jg p=p:=by
 induction p with
 |nil=>rfl
 |cons c t a=>
  grind[Jg,cf]
theorem MX(c:n<=p.length)(a:n=0\/cf p (n-1)≠0)(b:∀j,n<=j->cf p j=0):Jg p=p.take n:=by
 have e:Jg p=Jg (p.take n):=Yt λi=>by
  grind[Kh]
 grind[MW,Kh]
theorem X2(h:∀j,n<=j->cf p j=0):(Jg p).length<=n:=by
 rcases AF n (Jg p).length with a|a
 . have b:=YT (YS p) DY;grind[J0]
 . exact a
def ev:K->Rat->Rat
 |[],_=>0
 |c::t,x=>c+x*ev t x
theorem IP(h:∀i,cf p i=0)(x:Rat):ev p x=0:=by
 induction p with
 |nil=>rfl
 |cons c t a=>
  have b:=a (λi=>by rw[<-Yb c t i];exact h (i+1));grind[Yg,ev]
theorem Ki(h:∀i,cf p i=cf q i)(x:Rat):ev p x=ev q x:=by
 induction p generalizing q with
 |nil=>grind[IP,YZ]
 |cons c t e=>
  cases q with
  |nil=>grind[IP,YZ]
  |cons d s=>
   have a:c=d:=by have:=h 0;rwa[Yg,Yg]at this
   have b:=e (q:=s) (λi=>by have:=h (i+1);rwa[Yb,Yb]at this);rw[ev,ev,a,b]
theorem Fr(p:K)(x:Rat):ev (Jg p) x=ev p x:=Ki (J0 p) x
def dv:K->Rat->Rat
 |[],_=>0
 |_::t,x=>ev t x+x*dv t x
def FU:K->Rat->K
 |[],_=>[]
 |_::t,a=>match t with
  |[]=>[]
  |d::s=>ev (d::s) a::FU (d::s) a
def Pl(p:K)(a:Rat):(FU p a).length=p.length-1:=by
 induction p with
 |nil=>rfl
 |cons c t b=>
  cases t with
  |nil=>rfl
  |cons d s=>
   rw[FU,Af,b];simp
theorem MY(p:K)(a x:Rat):ev p x=ev p a+(x-a)*ev (FU p a) x:=by
 induction p with
 |nil=>simp[ev,FU];grind
 |cons c t b=>
  cases t with
  |nil=>simp[ev,FU];grind
  |cons d s=>
   grind[FU,ev]
theorem Pm{m:Nat}(h:∀n:Nat,m<=n->ev p (n:Rat)=0)(x:Rat):ev p x=0:=by
 obtain⟨k,a⟩:=ex (p.length);induction k generalizing p m with
 |zero=>
  have:p=[]:=Aj a
  rw[this];rfl
 |succ k e=>
  have b:=h m (Aa _);have c:∀n:Nat,m+1<=n->ev (FU p m) (n:Rat)=0:=λn f=>by
   grind[MY,Rat.natCast_inj]
  have d:=e c (by rw[Pl,a];rfl);rw[MY p (m:Rat) x,b,d];grind
theorem Pn(h:∀x,ev p x=0)(i:Nat):cf p i=0:=by
 induction p generalizing i with
 |nil=>rfl
 |cons c t g=>
  have a:c=0:=by have:=h 0;rw[ev]at this;grind
  have b:∀x,ev t x=0:=λx=>Pm (m:=1) (λn k=>by
   have d:=h (n:Rat);rw[ev,a]at d;have j:(n:Rat)≠0:=λe=>by
    have f:(n:Rat)=((0:Nat):Rat):=e;have:=Rat.natCast_inj.1 f;omega
   grind) x
  cases i with
  |zero=>rw[Yg];exact a
  |succ i=>rw[Yb];exact g b i
def X3:K->K->K
 |[],q=>q
 |p,[]=>p
 |c::t,d::s=>(c+d)::X3 t s
def YA(a:Rat)(p:K):K:=p.map λc=>c*a
def EK:K->K->K
 |[],_=>[]
 |c::t,q=>X3 (YA c q) (0::EK t q)
theorem Y5(p q:K)(i:Nat):cf (X3 p q) i=cf p i+cf q i:=by
 induction p generalizing q i with
 |nil=>rw[X3,YZ];grind
 |cons c t a=>
  cases q with
  |nil=>
   grind[X3,YZ]
  |cons d s=>
   rw[X3];cases i with
   |zero=>simp[cf]
   |succ i=>rw[Yb,Yb,Yb,a]
theorem YU(a:Rat)(p:K)(i:Nat):cf (YA a p) i=cf p i*a:=by
 grind[cf,YA]
theorem FV(p q:K)(x:Rat):ev (X3 p q) x=ev p x+ev q x:=by
 induction p generalizing q with
 |nil=>rw[X3,ev];grind
 |cons c t a=>
  cases q with
  |nil=>
   grind[X3,ev]
  |cons d s=>rw[X3,ev,ev,ev,a];grind
theorem Xu(a:Rat)(p:K)(x:Rat):ev (YA a p) x=ev p x*a:=by
 induction p with
 |nil=>simp[YA,ev]
 |cons c t b=>
  grind[YA,ev]
theorem MZ(p q:K)(x:Rat):ev (EK p q) x=ev p x*ev q x:=by
 induction p with
 |nil=>rw[EK,ev];grind
 |cons c t a=>rw[EK,FV,Xu,ev,ev,a];grind
theorem Kj(h:∀x,ev p x=ev q x):Jg p=Jg q:=by
 have a:∀i,cf (X3 p (YA (-1) q)) i=0:=Pn (λx=>by rw[FV,Xu,h x];grind);refine Yt λi=>?_;have:=a i;rw[Y5,YU]at this;grind
def sumN:Nat->(Nat->Rat)->Rat
 |0,_=>0
 |n+1,f=>sumN n f+f n
theorem Kk{f:Nat->Rat}(h:∀k,k<n->f k=0):sumN n f=0:=by
 induction n with
 |zero=>rfl
 |succ n a=>grind[sumN]
theorem Po(n:Nat)(f:Nat->Rat):sumN (n+1) f=f 0+sumN n (λk=>f (k+1)):=by
 induction n with
 |zero=>simp[sumN];grind
 |succ n a=>rw[sumN,a,sumN];grind
def conv(p q:K)(n k:Nat):Rat:=sumN n λi=>if i<=k then cf p i*cf q (k-i)else 0
theorem Fs(p q:K)(k:Nat):cf (EK p q) k=conv p q p.length k:=by
 induction p generalizing k with
 |nil=>rfl
 |cons c t a=>
  rw[EK,Y5,YU,conv,Af,Po];rw[BL (AJ _),Yg,CX];have e:cf (0::EK t q) k=sumN t.length (λi=>if i+1<=k then cf (c::t) (i+1)*cf q (k-(i+1))else 0):=by
   cases k with
   |zero=>
    grind[Yg,Kk]
   |succ k=>
    grind[Yb,conv]
  rw[e];grind
theorem Pp(p q:K)(h:p.length<=n):conv p q n k=conv p q p.length k:=by
 induction n with
 |zero=>grind
 |succ n b=>
  by_cases a:p.length=n+1
  . rw[a]
  . rw[<-b O];show conv p q n k+_=_
    grind[JV]
theorem Pq(p q:K)(h:k+1<=n):conv p q n k=conv p q (k+1) k:=by
 induction n with
 |zero=>omega
 |succ n b=>
  by_cases a:k+1=n+1
  . rw[a]
  . rw[<-b O];show conv p q n k+_=_
    grind
theorem Pr(h:p.length+q.length<=k+1):cf (EK p q) k=0:=by
 rw[Fs];refine Kk λi a=>?_;grind[JV]
theorem Ps(p q:K)(m n:Nat)(hp:p.length=m+1)(a:q.length=n+1):cf (EK p q) (m+n)=cf p m*cf q n:=by
 grind[Fs,conv,sumN,Kk,JV]
theorem Pt(hp:Jg p=p)(k:Jg q=q)(d:p≠[])(e:q≠[]):(Jg (EK p q)).length=p.length+q.length-1:=by
 have f:=YT hp d;have g:=YT k e;have m:0<p.length:=AP.2 d;have n:0<q.length:=AP.2 e;have i:=Ps p q (p.length-1) (q.length-1) O O;have b:cf (EK p q) (p.length-1+(q.length-1))≠0:=by
  rw[i];intro c;rcases Rat.mul_eq_zero.1 c with a|a
  . exact f a
  . exact g a
 have c:(Jg (EK p q)).length<=p.length+q.length-1:=X2 λj l=>Pr O;rcases AF (Jg (EK p q)).length (p.length+q.length-1)with a|a
 . rw[<-J0]at b;exact absurd (JV O) b
 . omega
def IQ(p:K):K:=(List.range (p.length-1)).map λi=>cf p (i+1)*((i+1:Nat):Rat)
theorem Kl(p:K)(i:Nat):cf (IQ p) i=cf p (i+1)*((i+1:Nat):Rat):=by
 grind[IQ,MV,JV]
def Pv(p:K):X3 p []=p:=by cases p<;>rfl
theorem Ma{u v b a:K}(p:Jg q=q)(r:q≠[])(s:Jg u=u)(t:Jg b=b)(w:Jg v=v)(y:Jg a=a)(z:v.length<q.length)(A:a.length<q.length)
(h:∀x,ev q x*ev u x+ev v x=ev q x*ev b x+ev a x):u=b/\v=a:=by
 obtain⟨d,c⟩:=ex (Jg (X3 u (YA (-1) b)));have l:Jg d=d:=by rw[<-c,YS]
 have m:∀x,ev d x=ev u x-ev b x:=λx=>by rw[<-c,Fr,FV,Xu];grind
 have e:∀x,ev (EK d q) x=ev (X3 a (YA (-1) v)) x:=λx=>by
  grind[MZ,FV,Xu]
 have g:=Kj e;have i:(Jg (X3 a (YA (-1) v))).length<q.length:=by
  refine Cz (X2 (n:=q.length-1) λj o=>?_) O;rw[Y5,YU,JV O,JV O];grind
 have k:d=[]:=by
  by_cases f:d=[]
  . exact f
  . grind[Pt,AP]
 grind[ev,Kj]
def Da(i:Nat)(q:K):K:=Zw i 0++q
theorem Ft(i:Nat)(q:K)(k:Nat):cf (Da i q) k=if i<=k then cf q (k-i)else 0:=by
 grind[cf,Da]
theorem IR(i:Nat)(q:K)(x:Rat):ev (Da i q) x=x^i*ev q x:=by
 induction i with
 |zero=>rw[show Da 0 q=q from J];grind
 |succ i a=>
  grind[Da,ev]
def YW(z:K)(i:Nat)(a:Rat)(q:K):Nat->K
 |0=>z
 |j+1=>(YW z i a q j).set (i+j) (cf (YW z i a q j) (i+j)+a*cf q j)
theorem XX(z:K)(i:Nat)(a:Rat)(q:K)(j:Nat):(YW z i a q j).length=z.length:=by
 induction j with
 |zero=>rfl
 |succ j b=>rw[YW,CM,b]
theorem Pw(z:K)(i:Nat)(a:Rat)(q:K)(j k:Nat)(h:i+j<=z.length):cf (YW z i a q j) k=cf z k+(if i<=k/\k<i+j then a*cf q (k-i)else 0):=by
 induction j with
 |zero=>rw[YW,BH O];grind
 |succ j b=>
  grind[YW,XS,XX]
theorem Km(z:K)(i:Nat)(a:Rat)(q:K)(k:Nat)(h:i+q.length<=z.length):cf (YW z i a q q.length) k=cf z k+a*cf (Da i q) k:=by
 grind[Pw,Ft,JV]
theorem Px(z:K)(i:Nat)(a:Rat)(q:K)(x:Rat)(h:i+q.length<=z.length):ev (YW z i a q q.length) x=ev z x+a*(x^i*ev q x):=by
 have e:∀k,cf (YW z i a q q.length) k=cf (X3 z (YA a (Da i q))) k:=λk=>by
  grind[Km,Y5,YU]
 rw[Ki e,FV,Xu,IR];grind
def YC(p q:K)(n:Nat):Nat->K
 |0=>Zw n 0
 |i+1=>YW (YC p q n i) i (cf p i) q q.length
def Kn(p q:K)(n i:Nat):(YC p q n i).length=n:=by
 induction i with
 |zero=>rw[YC,AM]
 |succ i a=>rw[YC,XX,a]
theorem IU(p q:K)(n i k:Nat)(h:i=0\/i+q.length<=n+1):cf (YC p q n i) k=conv p q i k:=by
 induction i with
 |zero=>rw[YC,J2];rfl
 |succ i a=>
  rw[YC,Km _ _ _ _ _ (by rw[Kn];omega),a O,Ft];show _=conv p q i k+_
  grind
def YK(p q:K)(n m:Nat):Nat->K × K
 |0=>(Zw m 0,p)
 |k+1=>
  let s:=YK p q n m k
  let i:=m-(k+1)
  let c:=cf s.2 (i+n)/cf q n
  (s.1.set i c,YW s.2 i (-c) q q.length)
theorem Py(p q:K)(n m k:Nat):(YK p q n m k).1.length=m/\(YK p q n m k).2.length=p.length:=by
 induction k with
 |zero=>exact⟨AM,J⟩
 |succ k a=>grind[YK,XX]
theorem Pz(p:K)(i:Nat)(c:Rat)(x:Rat)(b:i<p.length)(a:cf p i=0):ev (p.set i c) x=ev p x+c*x^i:=by
 have e:∀k,cf (p.set i c) k=cf (X3 p (Da i [c])) k:=λk=>by
  grind[XS,Y5,Ft,Yg,JV]
 rw[Ki e,FV,IR];simp[ev];grind
theorem Mb(p q:K)(n m:Nat)(c:q.length=n+1)(hl:cf q n≠0)(b:m+n=p.length):∀k,k<=m->
 (∀x,ev p x=ev q x*ev (YK p q n m k).1 x+ev (YK p q n m k).2 x)/\(∀j,j<m-k->cf (YK p q n m k).1 j=0)/\(∀j,m-k+n<=j->cf (YK p q n m k).2 j=0):=by
 intro k;induction k with
 |zero=>
  intro _;grind[J2,JV,YK,IP]
 |succ k d=>
  intro a;grind[Py,YK,Pz,Px,XS,Km,Ft,JV]
def GQ(p q:K):K:=Jg (YK p q (q.length-1) (p.length-(q.length-1)) (p.length-(q.length-1))).1
def FW(p q:K):K:=Jg (YK p q (q.length-1) (p.length-(q.length-1)) (p.length-(q.length-1))).2
theorem Mc(p q:K)(b:Jg q=q)(a:q≠[]):(∀x,ev p x=ev q x*ev (GQ p q) x+ev (FW p q) x)/\(FW p q).length<q.length/\Jg (GQ p q)=GQ p q/\Jg (FW p q)=FW p q:=by
 have d:0<q.length:=AP.2 a;refine⟨λx=>?_,?_,YS _,YS _⟩
 . unfold GQ FW;rw[Fr,Fr];by_cases h:q.length-1<=p.length
   . exact(Mb p q (q.length-1) (p.length-(q.length-1)) O (YT b a) O _ (Aa _)).1 x
   . rw[show p.length-(q.length-1)=0 from by omega,YK];grind[IP,J2]
 . unfold FW;refine Cz (X2 (n:=q.length-1) λj c=>?_) O;by_cases h:q.length-1<=p.length
   . exact(Mb p q (q.length-1) (p.length-(q.length-1)) O (YT b a) O _ (Aa _)).2.2 j O
   . rw[show p.length-(q.length-1)=0 from by omega,YK];exact JV (by dsimp only;omega)
def XY(p q:K):K:=Jg (X3 p q)
def EF(p q:K):K:=Jg (X3 p (YA (-1) q))
def YV(p q:K):K:=Jg (EK p q)
def Xv(p:K):K:=Jg (IQ p)
def X1(p q:K):Jg (XY p q)=XY p q:=YS _
def Ko(p q:K):Jg (EF p q)=EF p q:=YS _
def Md(p q:K):Jg (YV p q)=YV p q:=YS _
def P0(p:K):Jg (Xv p)=Xv p:=YS _
theorem Me(p q:K)(x:Rat):ev (XY p q) x=ev p x+ev q x:=by unfold XY;rw[Fr,FV]
theorem Mf(p q:K)(x:Rat):ev (EF p q) x=ev p x-ev q x:=by grind[EF,Fr,FV,Xu]
theorem Kp(p q:K)(x:Rat):ev (YV p q) x=ev p x*ev q x:=by unfold YV;rw[Fr,MZ]
theorem Gw(p q:K)(i:Nat):cf (XY p q) i=cf p i+cf q i:=by unfold XY;rw[J0,Y5]
theorem Kq(p q:K)(i:Nat):cf (EF p q) i=cf p i-cf q i:=by grind[EF,J0,Y5,YU]
theorem P1(p q:K):(X3 p q).length=max p.length q.length:=by
 induction p generalizing q with
 |nil=>rw[X3];simp
 |cons c t a=>
  cases q with
  |nil=>rw[Pv];simp
  |cons d s=>grind[X3]
theorem P2(p q:K):(XY p q).length<=max p.length q.length:=by
 have:=J3 (X3 p q);rw[P1]at this;exact this
def JS(a:Rat):K:=[a,1]
def Yx(a:Rat):K->K
 |[]=>[]
 |c::t=>XY (YV (Yx a t) (JS a)) (Jg [c])
def Mg(a:Rat):Jg (JS a)=JS a:=MW (Ax (by show cf [a,1] 1≠0;rw[Yb,Yg];decide))
def P3(a:Rat)(p:K):Jg (Yx a p)=Yx a p:=by
 cases p with
 |nil=>rfl
 |cons c t=>exact X1 _ _
