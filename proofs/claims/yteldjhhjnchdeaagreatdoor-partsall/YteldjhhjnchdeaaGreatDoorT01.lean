import Derived.Test.YteldjhhjnchdeaaGreatDoorT00
set_option linter.all false
set_option maxRecDepth 99999
set_option maxHeartbeats 0
namespace Go.Proofs.YteldjhhjnchdeaaGreatDoor
open List renaming replicate->kT
def BL:=@if_pos
def BH:=@if_neg
def cf(p:Ja)(i:Nat):Rat:=p[i]?.getD 0
variable{p q:Ja}{i k n:Nat}
theorem Yt(i:Nat):cf [] i=0:=by simp[cf]
theorem YC(c:Rat)(t:Ja):cf (c::t) 0=c:=by simp[cf]
theorem Yp(c:Rat)(t:Ja)(i:Nat):cf (c::t) (i+1)=cf t i:=by simp[cf]
theorem JS(h:p.length<=i):cf p i=0:=by simp[cf,List.getElem?_eq_none h]
def UP(h:i<p.length):cf p i=p[i]:=by simp[cf,List.getElem?_eq_getElem h]
theorem Mr(p:Ja)(c:Rat)(i:Nat):cf (p++[c]) i=if i=p.length then c else cf p i:=by
 grind[cf]
theorem XJ(p:Ja)(k:Nat)(c:Rat)(i:Nat)(a:k<p.length):cf (p.set k c) i=if i=k then c else cf p i:=by
 grind[cf]
theorem JT(n:Nat)(i:Nat):cf (kT n 0) i=0:=by
 grind[cf]
theorem LV(n:Nat)(f:Nat->Rat)(i:Nat):cf ((List.range n).map f) i=if i<n then f i else 0:=by
 grind[cf]
theorem Ms(p:Ja)(n i:Nat):cf (p.take n) i=if i<n then cf p i else 0:=by
 grind[cf]
def Jb:Ja->Ja
 |[]=>[]
 |c::t=>match Jb t with
  |[]=>if c=0 then []else [c]
  |d::s=>c::d::s
theorem JR(p:Ja)(i:Nat):cf (Jb p) i=cf p i:=by
 induction p generalizing i with
 |nil=>rfl
 |cons c t b=>
  have a:=b;rw[Jb];split
  . rename_i h;rw[h]at a;cases i with
    |zero=>split<;>simp_all [cf]
    |succ i=>
     grind[Yp,Yt]
  . rename_i d s h;rw[<-h];cases i with
    |zero=>rfl
    |succ i=>rw[Yp,Yp,a]
theorem LW(h:∀i,cf p i=0):Jb p=[]:=by
 induction p with
 |nil=>rfl
 |cons c t a=>
  have b:=a (λi=>by rw[<-Yp c t i];exact h (i+1));grind[YC,Jb]
theorem Yy(h:∀i,cf p i=cf q i):Jb p=Jb q:=by
 induction p generalizing q with
 |nil=>grind[LW,Yt]
 |cons c t e=>
  cases q with
  |nil=>grind[LW,Yt]
  |cons d s=>
   have a:c=d:=by have:=h 0;rwa[YC,YC]at this
   have b:=e (q:=s) (λi=>by have:=h (i+1);rwa[Yp,Yp]at this);rw[Jb,Jb,a,b]
def Ym(p:Ja):Jb (Jb p)=Jb p:=Yy (JR p)
theorem Yk(p:Ja):(Jb p).length<=p.length:=by
 induction p with
 |nil=>exact Aa _
 |cons c t a=>
  grind[Jb]
theorem Jv(h:Jb p=p)(a:p≠[]):cf p (p.length-1)≠0:=by
 induction p with
 |nil=>exact absurd J a
 |cons c t b=>
  grind[Jb,cf]
theorem UQ(h:p=[]\/cf p (p.length-1)≠0):Jb p=p:=by
 induction p with
 |nil=>rfl
 |cons c t a=>
  grind[Jb,cf]
theorem PV(c:n<=p.length)(a:n=0\/cf p (n-1)≠0)(b:∀j,n<=j->cf p j=0):Jb p=p.take n:=by
 have e:Jb p=Jb (p.take n):=Yy λi=>by
  grind[Ms]
 grind[UQ,Ms]
theorem Mt(h:∀j,n<=j->cf p j=0):(Jb p).length<=n:=by
 rcases AP n (Jb p).length with a|a
 . have b:=Jv (Ym p) DX;grind[JR]
 . exact a
def ev:Ja->Rat->Rat
 |[],_=>0
 |c::t,x=>c+x*ev t x
theorem KV(h:∀i,cf p i=0)(x:Rat):ev p x=0:=by
 induction p with
 |nil=>rfl
 |cons c t a=>
  have b:=a (λi=>by rw[<-Yp c t i];exact h (i+1));grind[YC,ev]
theorem KW(h:∀i,cf p i=cf q i)(x:Rat):ev p x=ev q x:=by
 induction p generalizing q with
 |nil=>grind[KV,Yt]
 |cons c t e=>
  cases q with
  |nil=>grind[KV,Yt]
  |cons d s=>
   have a:c=d:=by have:=h 0;rwa[YC,YC]at this
   have b:=e (q:=s) (λi=>by have:=h (i+1);rwa[Yp,Yp]at this);rw[ev,ev,a,b]
theorem XF(p:Ja)(x:Rat):ev (Jb p) x=ev p x:=KW (JR p) x
def dv:Ja->Rat->Rat
 |[],_=>0
 |_::t,x=>ev t x+x*dv t x
theorem PW(h:∀i,cf p i=0)(x:Rat):dv p x=0:=by
 induction p with
 |nil=>rfl
 |cons c t b=>
  have a:∀i,cf t i=0:=λi=>by rw[<-Yp c t i];exact h (i+1)
  rw[dv,b a,KV a];grind
theorem UR(h:∀i,cf p i=cf q i)(x:Rat):dv p x=dv q x:=by
 induction p generalizing q with
 |nil=>grind[PW,Yt]
 |cons c t b=>
  cases q with
  |nil=>grind[PW,Yt]
  |cons d s=>
   have a:∀i,cf t i=cf s i:=λi=>by have:=h (i+1);rwa[Yp,Yp]at this
   rw[dv,dv,b a,KW a]
def Hr:Ja->Rat->Ja
 |[],_=>[]
 |_::t,a=>match t with
  |[]=>[]
  |d::s=>ev (d::s) a::Hr (d::s) a
def US(p:Ja)(a:Rat):(Hr p a).length=p.length-1:=by
 induction p with
 |nil=>rfl
 |cons c t b=>
  cases t with
  |nil=>rfl
  |cons d s=>
   rw[Hr,Ak,b];simp
theorem PX(p:Ja)(a x:Rat):ev p x=ev p a+(x-a)*ev (Hr p a) x:=by
 induction p with
 |nil=>simp[ev,Hr];grind
 |cons c t b=>
  cases t with
  |nil=>simp[ev,Hr];grind
  |cons d s=>
   grind[Hr,ev]
theorem UT{m:Nat}(h:∀n:Nat,m<=n->ev p (n:Rat)=0)(x:Rat):ev p x=0:=by
 obtain⟨k,a⟩:=ex (p.length);induction k generalizing p m with
 |zero=>
  have:p=[]:=Ao a
  rw[this];rfl
 |succ k e=>
  have b:=h m (Aa _);have c:∀n:Nat,m+1<=n->ev (Hr p m) (n:Rat)=0:=λn f=>by
   grind[PX,Rat.natCast_inj]
  have d:=e c (by rw[US,a];rfl);rw[PX p (m:Rat) x,b,d];grind
theorem UU(h:∀x,ev p x=0)(i:Nat):cf p i=0:=by
 induction p generalizing i with
 |nil=>rfl
 |cons c t g=>
  have a:c=0:=by have:=h 0;rw[ev]at this;grind
  have b:∀x,ev t x=0:=λx=>UT (m:=1) (λn k=>by
   have d:=h (n:Rat);rw[ev,a]at d;have j:(n:Rat)≠0:=λe=>by
    have f:(n:Rat)=((0:Nat):Rat):=e;have:=Rat.natCast_inj.1 f;omega
   grind) x
  cases i with
  |zero=>rw[YC];exact a
  |succ i=>rw[Yp];exact g b i
def Du:Ja->Ja->Ja
 |[],q=>q
 |p,[]=>p
 |c::t,d::s=>(c+d)::Du t s
def YD(a:Rat)(p:Ja):Ja:=p.map λc=>c*a
def ET:Ja->Ja->Ja
 |[],_=>[]
 |c::t,q=>Du (YD c q) (0::ET t q)
theorem Xv(p q:Ja)(i:Nat):cf (Du p q) i=cf p i+cf q i:=by
 induction p generalizing q i with
 |nil=>rw[Du,Yt];grind
 |cons c t a=>
  cases q with
  |nil=>
   grind[Du,Yt]
  |cons d s=>
   rw[Du];cases i with
   |zero=>simp[cf]
   |succ i=>rw[Yp,Yp,Yp,a]
theorem Xc(a:Rat)(p:Ja)(i:Nat):cf (YD a p) i=cf p i*a:=by
 grind[cf,YD]
theorem Ga(p q:Ja)(x:Rat):ev (Du p q) x=ev p x+ev q x:=by
 induction p generalizing q with
 |nil=>rw[Du,ev];grind
 |cons c t a=>
  cases q with
  |nil=>
   grind[Du,ev]
  |cons d s=>rw[Du,ev,ev,ev,a];grind
theorem Xw(a:Rat)(p:Ja)(x:Rat):ev (YD a p) x=ev p x*a:=by
 induction p with
 |nil=>simp[YD,ev]
 |cons c t b=>
  grind[YD,ev]
theorem Mu(p q:Ja)(x:Rat):ev (ET p q) x=ev p x*ev q x:=by
 induction p with
 |nil=>rw[ET,ev];grind
 |cons c t a=>rw[ET,Ga,Xw,ev,ev,a];grind
theorem UV(p q:Ja)(x:Rat):dv (Du p q) x=dv p x+dv q x:=by
 induction p generalizing q with
 |nil=>rw[Du,dv];grind
 |cons c t a=>
  cases q with
  |nil=>
   grind[Du,dv]
  |cons d s=>rw[Du,dv,dv,dv,a,Ga];grind
theorem UW(a:Rat)(p:Ja)(x:Rat):dv (YD a p) x=dv p x*a:=by
 induction p with
 |nil=>simp[YD,dv]
 |cons c t b=>
  grind[YD,dv,Xw]
theorem UX(p q:Ja)(x:Rat):dv (ET p q) x=dv p x*ev q x+ev p x*dv q x:=by
 induction p with
 |nil=>rw[ET,dv,ev];grind
 |cons c t a=>grind[ET,UV,UW,dv,ev,Mu]
theorem LX(h:∀x,ev p x=ev q x):Jb p=Jb q:=by
 have a:∀i,cf (Du p (YD (-1) q)) i=0:=UU (λx=>by rw[Ga,Xw,h x];grind);refine Yy λi=>?_;have:=a i;rw[Xv,Xc]at this;grind
def sumN:Nat->(Nat->Rat)->Rat
 |0,_=>0
 |n+1,f=>sumN n f+f n
theorem Mv{f:Nat->Rat}(h:∀k,k<n->f k=0):sumN n f=0:=by
 induction n with
 |zero=>rfl
 |succ n a=>grind[sumN]
theorem UY(n:Nat)(f:Nat->Rat):sumN (n+1) f=f 0+sumN n (λk=>f (k+1)):=by
 induction n with
 |zero=>simp[sumN];grind
 |succ n a=>rw[sumN,a,sumN];grind
def conv(p q:Ja)(n k:Nat):Rat:=sumN n λi=>if i<=k then cf p i*cf q (k-i)else 0
theorem IJ(p q:Ja)(k:Nat):cf (ET p q) k=conv p q p.length k:=by
 induction p generalizing k with
 |nil=>rfl
 |cons c t a=>
  rw[ET,Xv,Xc,conv,Ak,UY];rw[BL (As _),YC,Fj];have e:cf (0::ET t q) k=sumN t.length (λi=>if i+1<=k then cf (c::t) (i+1)*cf q (k-(i+1))else 0):=by
   cases k with
   |zero=>
    grind[YC,Mv]
   |succ k=>
    grind[Yp,conv]
  rw[e];grind
theorem PY(p q:Ja)(h:p.length<=n):conv p q n k=conv p q p.length k:=by
 induction n with
 |zero=>grind
 |succ n b=>
  by_cases a:p.length=n+1
  . rw[a]
  . rw[<-b O];show conv p q n k+_=_
    grind[JS]
theorem UZ(p q:Ja)(h:k+1<=n):conv p q n k=conv p q (k+1) k:=by
 induction n with
 |zero=>omega
 |succ n b=>
  by_cases a:k+1=n+1
  . rw[a]
  . rw[<-b O];show conv p q n k+_=_
    grind
theorem U0(h:p.length+q.length<=k+1):cf (ET p q) k=0:=by
 rw[IJ];refine Mv λi a=>?_;grind[JS]
theorem Mw(p q:Ja)(m n:Nat)(hp:p.length=m+1)(hq:q.length=n+1):cf (ET p q) (m+n)=cf p m*cf q n:=by
 grind[IJ,conv,sumN,Mv,JS]
theorem PZ(hp:Jb p=p)(hq:Jb q=q)(d:p≠[])(e:q≠[]):(Jb (ET p q)).length=p.length+q.length-1:=by
 have f:=Jv hp d;have g:=Jv hq e;have l1:0<p.length:=Ac.2 d;have l2:0<q.length:=Ac.2 e;have i:=Mw p q (p.length-1) (q.length-1) O O;have b:cf (ET p q) (p.length-1+(q.length-1))≠0:=by
  rw[i];intro c;rcases Rat.mul_eq_zero.1 c with a|a
  . exact f a
  . exact g a
 have c:(Jb (ET p q)).length<=p.length+q.length-1:=Mt λj k=>U0 O;rcases AP (Jb (ET p q)).length (p.length+q.length-1)with a|a
 . rw[<-JR]at b;exact absurd (JS O) b
 . omega
def IK(p:Ja):Ja:=(List.range (p.length-1)).map λi=>cf p (i+1)*((i+1:Nat):Rat)
theorem IL(p:Ja)(i:Nat):cf (IK p) i=cf p (i+1)*((i+1:Nat):Rat):=by
 grind[IK,LV,JS]
theorem U1(p:Ja)(x:Rat):ev (IK p) x=dv p x:=by
 induction p with
 |nil=>rfl
 |cons c t a=>
  have e:∀i,cf (IK (c::t)) i=cf (Du t (0::IK t)) i:=λi=>by
   rw[IL,Xv,Yp];cases i with
   |zero=>rw[YC];grind
   |succ i=>rw[Yp,IL];grind
  rw[KW e,Ga,ev,a,dv];grind
def U2(p:Ja):Du p []=p:=by cases p<;>rfl
theorem Mx{u v b a:Ja}(hq:Jb q=q)(p:q≠[])(r:Jb u=u)(s:Jb b=b)(t:Jb v=v)(w:Jb a=a)(y:v.length<q.length)(z:a.length<q.length)
(h:∀x,ev q x*ev u x+ev v x=ev q x*ev b x+ev a x):u=b/\v=a:=by
 obtain⟨d,c⟩:=ex (Jb (Du u (YD (-1) b)));have l:Jb d=d:=by rw[<-c,Ym]
 have m:∀x,ev d x=ev u x-ev b x:=λx=>by rw[<-c,XF,Ga,Xw];grind
 have e:∀x,ev (ET d q) x=ev (Du a (YD (-1) v)) x:=λx=>by
  grind[Mu,Ga,Xw]
 have g:=LX e;have i:(Jb (Du a (YD (-1) v))).length<q.length:=by
  refine Cq (Mt (n:=q.length-1) λj o=>?_) O;rw[Xv,Xc,JS O,JS O];grind
 have k:d=[]:=by
  by_cases f:d=[]
  . exact f
  . grind[PZ,Ac]
 grind[ev,LX]
def Dg(i:Nat)(q:Ja):Ja:=kT i 0++q
theorem IM(i:Nat)(q:Ja)(k:Nat):cf (Dg i q) k=if i<=k then cf q (k-i)else 0:=by
 grind[cf,Dg]
theorem LY(i:Nat)(q:Ja)(x:Rat):ev (Dg i q) x=x^i*ev q x:=by
 induction i with
 |zero=>rw[show Dg 0 q=q from J];grind
 |succ i a=>
  grind[Dg,ev]
def YP(z:Ja)(i:Nat)(a:Rat)(q:Ja):Nat->Ja
 |0=>z
 |j+1=>(YP z i a q j).set (i+j) (cf (YP z i a q j) (i+j)+a*cf q j)
theorem XV(z:Ja)(i:Nat)(a:Rat)(q:Ja)(j:Nat):(YP z i a q j).length=z.length:=by
 induction j with
 |zero=>rfl
 |succ j b=>rw[YP,C0,b]
theorem U3(z:Ja)(i:Nat)(a:Rat)(q:Ja)(j k:Nat)(h:i+j<=z.length):cf (YP z i a q j) k=cf z k+(if i<=k/\k<i+j then a*cf q (k-i)else 0):=by
 induction j with
 |zero=>rw[YP,BH O];grind
 |succ j b=>
  grind[YP,XJ,XV]
theorem My(z:Ja)(i:Nat)(a:Rat)(q:Ja)(k:Nat)(h:i+q.length<=z.length):cf (YP z i a q q.length) k=cf z k+a*cf (Dg i q) k:=by
 grind[U3,IM,JS]
theorem U4(z:Ja)(i:Nat)(a:Rat)(q:Ja)(x:Rat)(h:i+q.length<=z.length):ev (YP z i a q q.length) x=ev z x+a*(x^i*ev q x):=by
 have e:∀k,cf (YP z i a q q.length) k=cf (Du z (YD a (Dg i q))) k:=λk=>by
  grind[My,Xv,Xc]
 rw[KW e,Ga,Xw,LY];grind
def Xj(p q:Ja)(n:Nat):Nat->Ja
 |0=>kT n 0
 |i+1=>YP (Xj p q n i) i (cf p i) q q.length
def Mz(p q:Ja)(n i:Nat):(Xj p q n i).length=n:=by
 induction i with
 |zero=>rw[Xj,AE]
 |succ i a=>rw[Xj,XV,a]
theorem NA(p q:Ja)(n i k:Nat)(h:i=0\/i+q.length<=n+1):cf (Xj p q n i) k=conv p q i k:=by
 induction i with
 |zero=>rw[Xj,JT];rfl
 |succ i a=>
  rw[Xj,My _ _ _ _ _ (by rw[Mz];omega),a O,IM];show _=conv p q i k+_
  grind
def JI(p q:Ja)(n m:Nat):Nat->Ja × Ja
 |0=>(kT m 0,p)
 |k+1=>
  let s:=JI p q n m k
  let i:=m-(k+1)
  let c:=cf s.2 (i+n)/cf q n
  (s.1.set i c,YP s.2 i (-c) q q.length)
theorem Y0(p q:Ja)(n m k:Nat):(JI p q n m k).1.length=m/\(JI p q n m k).2.length=p.length:=by
 induction k with
 |zero=>exact⟨AE,J⟩
 |succ k a=>grind[JI,XV]
theorem U5(p:Ja)(i:Nat)(c:Rat)(x:Rat)(b:i<p.length)(a:cf p i=0):ev (p.set i c) x=ev p x+c*x^i:=by
 have e:∀k,cf (p.set i c) k=cf (Du p (Dg i [c])) k:=λk=>by
  grind[XJ,Xv,IM,YC,JS]
 rw[KW e,Ga,LY];simp[ev];grind
theorem Pa(p q:Ja)(n m:Nat)(hq:q.length=n+1)(hl:cf q n≠0)(b:m+n=p.length):∀k,k<=m->
 (∀x,ev p x=ev q x*ev (JI p q n m k).1 x+ev (JI p q n m k).2 x)/\(∀j,j<m-k->cf (JI p q n m k).1 j=0)/\(∀j,m-k+n<=j->cf (JI p q n m k).2 j=0):=by
 intro k;induction k with
 |zero=>
  intro _;grind[JT,JS,JI,KV]
 |succ k c=>
  intro a;grind[Y0,JI,U5,U4,XJ,My,IM,JS]
def JL(p q:Ja):Ja:=Jb (JI p q (q.length-1) (p.length-(q.length-1)) (p.length-(q.length-1))).1
def J0(p q:Ja):Ja:=Jb (JI p q (q.length-1) (p.length-(q.length-1)) (p.length-(q.length-1))).2
theorem Yz(p q:Ja)(hq:Jb q=q)(a:q≠[]):(∀x,ev p x=ev q x*ev (JL p q) x+ev (J0 p q) x)/\(J0 p q).length<q.length/\Jb (JL p q)=JL p q/\Jb (J0 p q)=J0 p q:=by
 have l1:0<q.length:=Ac.2 a;refine⟨λx=>?_,?_,Ym _,Ym _⟩
 . unfold JL J0;rw[XF,XF];by_cases h:q.length-1<=p.length
   . exact(Pa p q (q.length-1) (p.length-(q.length-1)) O (Jv hq a) O _ (Aa _)).1 x
   . rw[show p.length-(q.length-1)=0 from by omega,JI];grind[KV,JT]
 . unfold J0;refine Cq (Mt (n:=q.length-1) λj b=>?_) O;by_cases h:q.length-1<=p.length
   . exact(Pa p q (q.length-1) (p.length-(q.length-1)) O (Jv hq a) O _ (Aa _)).2.2 j O
   . rw[show p.length-(q.length-1)=0 from by omega,JI];exact JS (by dsimp only;omega)
def Xm(p q:Ja):Ja:=Jb (Du p q)
def JP(p q:Ja):Ja:=Jb (Du p (YD (-1) q))
def Jy(p q:Ja):Ja:=Jb (ET p q)
def Jd(p:Ja):Ja:=Jb (IK p)
def Xd(p q:Ja):Jb (Xm p q)=Xm p q:=Ym _
theorem Yi(p q:Ja):Jb (JP p q)=JP p q:=Ym _
def JW(p q:Ja):Jb (Jy p q)=Jy p q:=Ym _
theorem JB(p:Ja):Jb (Jd p)=Jd p:=Ym _
theorem Xk(p q:Ja)(x:Rat):ev (Xm p q) x=ev p x+ev q x:=by unfold Xm;rw[XF,Ga]
theorem XW(p q:Ja)(x:Rat):ev (JP p q) x=ev p x-ev q x:=by grind[JP,XF,Ga,Xw]
theorem Jm(p q:Ja)(x:Rat):ev (Jy p q) x=ev p x*ev q x:=by unfold Jy;rw[XF,Mu]
def LZ(p:Ja)(x:Rat):ev (Jd p) x=dv p x:=by unfold Jd;rw[XF,U1]
theorem NB(p q:Ja)(i:Nat):cf (Xm p q) i=cf p i+cf q i:=by unfold Xm;rw[JR,Xv]
theorem Iy(p q:Ja)(i:Nat):cf (JP p q) i=cf p i-cf q i:=by grind[JP,JR,Xv,Xc]
theorem U6(p q:Ja):(Du p q).length=max p.length q.length:=by
 induction p generalizing q with
 |nil=>rw[Du];simp
 |cons c t a=>
  cases q with
  |nil=>rw[U2];simp
  |cons d s=>grind[Du]
def U7(p q:Ja):(Xm p q).length<=max p.length q.length:=by
 have:=Yk (Du p q);rw[U6]at this;exact this
def XY(hp:Jb p=p)(hq:Jb q=q)(h:∀x,ev p x=ev q x):p=q:=by rw[<-hp,<-hq];exact LX h
theorem U8(p q:Ja):Jd (Jy p q)=Xm (Jy (Jd p) q) (Jy p (Jd q)):=by
 refine XY (JB _) (Xd _ _) λx=>?_;rw[LZ,Xk,Jm,Jm,LZ,LZ,<-UX];grind[UR,Jy,JR]
