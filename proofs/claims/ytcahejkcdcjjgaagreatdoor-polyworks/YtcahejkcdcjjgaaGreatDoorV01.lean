import Derived.Test.YtcahejkcdcjjgaaGreatDoorV00
set_option linter.all false
set_option maxRecDepth 99999
set_option maxHeartbeats 0
namespace Go.Proofs.YtcahejkcdcjjgaaGreatDoor
open List renaming replicate->WC
def BR:=@if_pos
def BL:=@if_neg
def cf(p:U)(i:Nat):Rat:=p[i]?.getD 0
variable{p q:U}{i k n:Nat}
theorem YO(i:Nat):cf [] i=0:=by simp[cf]
theorem YV(c:Rat)(t:U):cf (c::t) 0=c:=by simp[cf]
theorem YB(c:Rat)(t:U)(i:Nat):cf (c::t) (i+1)=cf t i:=by simp[cf]
theorem JW(h:p.length<=i):cf p i=0:=by simp[cf,List.getElem?_eq_none h]
def Op(h:i<p.length):cf p i=p[i]:=by simp[cf,List.getElem?_eq_getElem h]
theorem Iv(p:U)(c:Rat)(i:Nat):cf (p++[c]) i=if i=p.length then c else cf p i:=by
 grind[cf]
theorem Xs(p:U)(k:Nat)(c:Rat)(i:Nat)(a:k<p.length):cf (p.set k c) i=if i=k then c else cf p i:=by
 grind[cf]
theorem JX(n:Nat)(i:Nat):cf (WC n 0) i=0:=by
 grind[cf]
theorem Oq(n:Nat)(f:Nat->Rat)(i:Nat):cf ((List.range n).map f) i=if i<n then f i else 0:=by
 grind[cf]
theorem Iw(p:U)(n i:Nat):cf (p.take n) i=if i<n then cf p i else 0:=by
 grind[cf]
def Jf:U->U
 |[]=>[]
 |c::t=>match Jf t with
  |[]=>if c=0 then []else [c]
  |d::s=>c::d::s
theorem J2(p:U)(i:Nat):cf (Jf p) i=cf p i:=by
 induction p generalizing i with
 |nil=>rfl
 |cons c t b=>
  have a:=b;rw[Jf];split
  . rename_i h;rw[h]at a;cases i with
    |zero=>split<;>simp_all [cf]
    |succ i=>
     grind[YB,YO]
  . rename_i d s h;rw[<-h];cases i with
    |zero=>rfl
    |succ i=>rw[YB,YB,a]
theorem Hc(h:∀i,cf p i=0):Jf p=[]:=by
 induction p with
 |nil=>rfl
 |cons c t a=>
  have b:=a (λi=>by rw[<-YB c t i];exact h (i+1));grind[YV,Jf]
theorem Yo(h:∀i,cf p i=cf q i):Jf p=Jf q:=by
 induction p generalizing q with
 |nil=>grind[Hc,YO]
 |cons c t e=>
  cases q with
  |nil=>grind[Hc,YO]
  |cons d s=>
   have a:c=d:=by have:=h 0;rwa[YV,YV]at this
   have b:=e (q:=s) (λi=>by have:=h (i+1);rwa[YB,YB]at this);rw[Jf,Jf,a,b]
def Y3(p:U):Jf (Jf p)=Jf p:=Yo (J2 p)
theorem JY(p:U):(Jf p).length<=p.length:=by
 induction p with
 |nil=>exact Aa _
 |cons c t a=>
  grind[Jf]
theorem J3(h:Jf p=p)(a:p≠[]):cf p (p.length-1)≠0:=by
 induction p with
 |nil=>exact absurd J a
 |cons c t b=>
  grind[Jf,cf]
theorem Ot(h:p=[]\/cf p (p.length-1)≠0):Jf p=p:=by
 induction p with
 |nil=>rfl
 |cons c t a=>
  grind[Jf,cf]
theorem Lf(c:n<=p.length)(a:n=0\/cf p (n-1)≠0)(b:∀j,n<=j->cf p j=0):Jf p=p.take n:=by
 have e:Jf p=Jf (p.take n):=Yo λi=>by
  grind[Iw]
 grind[Ot,Iw]
theorem XX(h:∀j,n<=j->cf p j=0):(Jf p).length<=n:=by
 rcases AD n (Jf p).length with a|a
 . have b:=J3 (Y3 p) DX;grind[J2]
 . exact a
def ev:U->Rat->Rat
 |[],_=>0
 |c::t,x=>c+x*ev t x
theorem Hd(h:∀i,cf p i=0)(x:Rat):ev p x=0:=by
 induction p with
 |nil=>rfl
 |cons c t a=>
  have b:=a (λi=>by rw[<-YB c t i];exact h (i+1));grind[YV,ev]
theorem Ix(h:∀i,cf p i=cf q i)(x:Rat):ev p x=ev q x:=by
 induction p generalizing q with
 |nil=>grind[Hd,YO]
 |cons c t e=>
  cases q with
  |nil=>grind[Hd,YO]
  |cons d s=>
   have a:c=d:=by have:=h 0;rwa[YV,YV]at this
   have b:=e (q:=s) (λi=>by have:=h (i+1);rwa[YB,YB]at this);rw[ev,ev,a,b]
theorem FW(p:U)(x:Rat):ev (Jf p) x=ev p x:=Ix (J2 p) x
def dv:U->Rat->Rat
 |[],_=>0
 |_::t,x=>ev t x+x*dv t x
def FJ:U->Rat->U
 |[],_=>[]
 |_::t,a=>match t with
  |[]=>[]
  |d::s=>ev (d::s) a::FJ (d::s) a
def Ou(p:U)(a:Rat):(FJ p a).length=p.length-1:=by
 induction p with
 |nil=>rfl
 |cons c t b=>
  cases t with
  |nil=>rfl
  |cons d s=>
   rw[FJ,Ak,b];simp
theorem Lg(p:U)(a x:Rat):ev p x=ev p a+(x-a)*ev (FJ p a) x:=by
 induction p with
 |nil=>simp[ev,FJ];grind
 |cons c t b=>
  cases t with
  |nil=>simp[ev,FJ];grind
  |cons d s=>
   grind[FJ,ev]
theorem Ov{m:Nat}(h:∀n:Nat,m<=n->ev p (n:Rat)=0)(x:Rat):ev p x=0:=by
 obtain⟨k,a⟩:=ex (p.length);induction k generalizing p m with
 |zero=>
  have:p=[]:=Ah a
  rw[this];rfl
 |succ k e=>
  have b:=h m (Aa _);have c:∀n:Nat,m+1<=n->ev (FJ p m) (n:Rat)=0:=λn f=>by
   grind[Lg,Rat.natCast_inj]
  have d:=e c (by rw[Ou,a];rfl);rw[Lg p (m:Rat) x,b,d];grind
theorem Ow(h:∀x,ev p x=0)(i:Nat):cf p i=0:=by
 induction p generalizing i with
 |nil=>rfl
 |cons c t g=>
  have a:c=0:=by have:=h 0;rw[ev]at this;grind
  have b:∀x,ev t x=0:=λx=>Ov (m:=1) (λn k=>by
   have d:=h (n:Rat);rw[ev,a]at d;have j:(n:Rat)≠0:=λe=>by
    have f:(n:Rat)=((0:Nat):Rat):=e;have:=Rat.natCast_inj.1 f;omega
   grind) x
  cases i with
  |zero=>rw[YV];exact a
  |succ i=>rw[YB];exact g b i
def XY:U->U->U
 |[],q=>q
 |p,[]=>p
 |c::t,d::s=>(c+d)::XY t s
def Ys(a:Rat)(p:U):U:=p.map λc=>c*a
def D4:U->U->U
 |[],_=>[]
 |c::t,q=>XY (Ys c q) (0::D4 t q)
theorem YW(p q:U)(i:Nat):cf (XY p q) i=cf p i+cf q i:=by
 induction p generalizing q i with
 |nil=>rw[XY,YO];grind
 |cons c t a=>
  cases q with
  |nil=>
   grind[XY,YO]
  |cons d s=>
   rw[XY];cases i with
   |zero=>simp[cf]
   |succ i=>rw[YB,YB,YB,a]
theorem YL(a:Rat)(p:U)(i:Nat):cf (Ys a p) i=cf p i*a:=by
 grind[cf,Ys]
theorem X9(p q:U)(x:Rat):ev (XY p q) x=ev p x+ev q x:=by
 induction p generalizing q with
 |nil=>rw[XY,ev];grind
 |cons c t a=>
  cases q with
  |nil=>
   grind[XY,ev]
  |cons d s=>rw[XY,ev,ev,ev,a];grind
theorem Xt(a:Rat)(p:U)(x:Rat):ev (Ys a p) x=ev p x*a:=by
 induction p with
 |nil=>simp[Ys,ev]
 |cons c t b=>
  grind[Ys,ev]
theorem Lh(p q:U)(x:Rat):ev (D4 p q) x=ev p x*ev q x:=by
 induction p with
 |nil=>rw[D4,ev];grind
 |cons c t a=>rw[D4,X9,Xt,ev,ev,a];grind
theorem Iy(h:∀x,ev p x=ev q x):Jf p=Jf q:=by
 have a:∀i,cf (XY p (Ys (-1) q)) i=0:=Ow (λx=>by rw[X9,Xt,h x];grind);refine Yo λi=>?_;have:=a i;rw[YW,YL]at this;grind
def sumN:Nat->(Nat->Rat)->Rat
 |0,_=>0
 |n+1,f=>sumN n f+f n
theorem Iz{f:Nat->Rat}(h:∀k,k<n->f k=0):sumN n f=0:=by
 induction n with
 |zero=>rfl
 |succ n a=>grind[sumN]
theorem Ox(n:Nat)(f:Nat->Rat):sumN (n+1) f=f 0+sumN n (λk=>f (k+1)):=by
 induction n with
 |zero=>simp[sumN];grind
 |succ n a=>rw[sumN,a,sumN];grind
def conv(p q:U)(n k:Nat):Rat:=sumN n λi=>if i<=k then cf p i*cf q (k-i)else 0
theorem Ft(p q:U)(k:Nat):cf (D4 p q) k=conv p q p.length k:=by
 induction p generalizing k with
 |nil=>rfl
 |cons c t a=>
  rw[D4,YW,YL,conv,Ak,Ox];rw[BR (AB _),YV,CQ];have e:cf (0::D4 t q) k=sumN t.length (λi=>if i+1<=k then cf (c::t) (i+1)*cf q (k-(i+1))else 0):=by
   cases k with
   |zero=>
    grind[YV,Iz]
   |succ k=>
    grind[YB,conv]
  rw[e];grind
theorem Oy(p q:U)(h:p.length<=n):conv p q n k=conv p q p.length k:=by
 induction n with
 |zero=>grind
 |succ n b=>
  by_cases a:p.length=n+1
  . rw[a]
  . rw[<-b O];show conv p q n k+_=_
    grind[JW]
theorem Oz(p q:U)(h:k+1<=n):conv p q n k=conv p q (k+1) k:=by
 induction n with
 |zero=>omega
 |succ n b=>
  by_cases a:k+1=n+1
  . rw[a]
  . rw[<-b O];show conv p q n k+_=_
    grind
theorem O0(h:p.length+q.length<=k+1):cf (D4 p q) k=0:=by
 rw[Ft];refine Iz λi a=>?_;grind[JW]
theorem O1(p q:U)(m n:Nat)(hp:p.length=m+1)(a:q.length=n+1):cf (D4 p q) (m+n)=cf p m*cf q n:=by
 grind[Ft,conv,sumN,Iz,JW]
theorem O2(hp:Jf p=p)(k:Jf q=q)(d:p≠[])(e:q≠[]):(Jf (D4 p q)).length=p.length+q.length-1:=by
 have f:=J3 hp d;have g:=J3 k e;have m:0<p.length:=Ap.2 d;have n:0<q.length:=Ap.2 e;have i:=O1 p q (p.length-1) (q.length-1) O O;have b:cf (D4 p q) (p.length-1+(q.length-1))≠0:=by
  rw[i];intro c;rcases Rat.mul_eq_zero.1 c with a|a
  . exact f a
  . exact g a
 have c:(Jf (D4 p q)).length<=p.length+q.length-1:=XX λj l=>O0 O;rcases AD (Jf (D4 p q)).length (p.length+q.length-1)with a|a
 . rw[<-J2]at b;exact absurd (JW O) b
 . omega
def O3(p:U):XY p []=p:=by cases p<;>rfl
theorem Li{u v b a:U}(p:Jf q=q)(r:q≠[])(s:Jf u=u)(t:Jf b=b)(w:Jf v=v)(y:Jf a=a)(z:v.length<q.length)(A:a.length<q.length)
(h:∀x,ev q x*ev u x+ev v x=ev q x*ev b x+ev a x):u=b/\v=a:=by
 obtain⟨d,c⟩:=ex (Jf (XY u (Ys (-1) b)));have l:Jf d=d:=by rw[<-c,Y3]
 have m:∀x,ev d x=ev u x-ev b x:=λx=>by rw[<-c,FW,X9,Xt];grind
 have e:∀x,ev (D4 d q) x=ev (XY a (Ys (-1) v)) x:=λx=>by
  grind[Lh,X9,Xt]
 have g:=Iy e;have i:(Jf (XY a (Ys (-1) v))).length<q.length:=by
  refine Cy (XX (n:=q.length-1) λj o=>?_) O;rw[YW,YL,JW O,JW O];grind
 have k:d=[]:=by
  by_cases f:d=[]
  . exact f
  . grind[O2,Ap]
 grind[ev,Iy]
def DZ(i:Nat)(q:U):U:=WC i 0++q
theorem FX(i:Nat)(q:U)(k:Nat):cf (DZ i q) k=if i<=k then cf q (k-i)else 0:=by
 grind[cf,DZ]
theorem He(i:Nat)(q:U)(x:Rat):ev (DZ i q) x=x^i*ev q x:=by
 induction i with
 |zero=>rw[show DZ 0 q=q from J];grind
 |succ i a=>
  grind[DZ,ev]
def Yg(z:U)(i:Nat)(a:Rat)(q:U):Nat->U
 |0=>z
 |j+1=>(Yg z i a q j).set (i+j) (cf (Yg z i a q j) (i+j)+a*cf q j)
theorem Xa(z:U)(i:Nat)(a:Rat)(q:U)(j:Nat):(Yg z i a q j).length=z.length:=by
 induction j with
 |zero=>rfl
 |succ j b=>rw[Yg,CI,b]
theorem O4(z:U)(i:Nat)(a:Rat)(q:U)(j k:Nat)(h:i+j<=z.length):cf (Yg z i a q j) k=cf z k+(if i<=k/\k<i+j then a*cf q (k-i)else 0):=by
 induction j with
 |zero=>rw[Yg,BL O];grind
 |succ j b=>
  grind[Yg,Xs,Xa]
theorem I0(z:U)(i:Nat)(a:Rat)(q:U)(k:Nat)(h:i+q.length<=z.length):cf (Yg z i a q q.length) k=cf z k+a*cf (DZ i q) k:=by
 grind[O4,FX,JW]
theorem O5(z:U)(i:Nat)(a:Rat)(q:U)(x:Rat)(h:i+q.length<=z.length):ev (Yg z i a q q.length) x=ev z x+a*(x^i*ev q x):=by
 have e:∀k,cf (Yg z i a q q.length) k=cf (XY z (Ys a (DZ i q))) k:=λk=>by
  grind[I0,YW,YL]
 rw[Ix e,X9,Xt,He];grind
def YC(p q:U)(n:Nat):Nat->U
 |0=>WC n 0
 |i+1=>Yg (YC p q n i) i (cf p i) q q.length
def I1(p q:U)(n i:Nat):(YC p q n i).length=n:=by
 induction i with
 |zero=>rw[YC,AG]
 |succ i a=>rw[YC,Xa,a]
theorem I5(p q:U)(n i k:Nat)(h:i=0\/i+q.length<=n+1):cf (YC p q n i) k=conv p q i k:=by
 induction i with
 |zero=>rw[YC,JX];rfl
 |succ i a=>
  rw[YC,I0 _ _ _ _ _ (by rw[I1];omega),a O,FX];show _=conv p q i k+_
  grind
def JB(p q:U)(n m:Nat):Nat->U × U
 |0=>(WC m 0,p)
 |k+1=>
  let s:=JB p q n m k
  let i:=m-(k+1)
  let c:=cf s.2 (i+n)/cf q n
  (s.1.set i c,Yg s.2 i (-c) q q.length)
theorem Yp(p q:U)(n m k:Nat):(JB p q n m k).1.length=m/\(JB p q n m k).2.length=p.length:=by
 induction k with
 |zero=>exact⟨AG,J⟩
 |succ k a=>grind[JB,Xa]
theorem O6(p:U)(i:Nat)(c:Rat)(x:Rat)(b:i<p.length)(a:cf p i=0):ev (p.set i c) x=ev p x+c*x^i:=by
 have e:∀k,cf (p.set i c) k=cf (XY p (DZ i [c])) k:=λk=>by
  grind[Xs,YW,FX,YV,JW]
 rw[Ix e,X9,He];simp[ev];grind
theorem Lj(p q:U)(n m:Nat)(c:q.length=n+1)(hl:cf q n≠0)(b:m+n=p.length):∀k,k<=m->
 (∀x,ev p x=ev q x*ev (JB p q n m k).1 x+ev (JB p q n m k).2 x)/\(∀j,j<m-k->cf (JB p q n m k).1 j=0)/\(∀j,m-k+n<=j->cf (JB p q n m k).2 j=0):=by
 intro k;induction k with
 |zero=>
  intro _;grind[JX,JW,JB,Hd]
 |succ k d=>
  intro a;grind[Yp,JB,O6,O5,Xs,I0,FX,JW]
def XZ(p q:U):U:=Jf (JB p q (q.length-1) (p.length-(q.length-1)) (p.length-(q.length-1))).1
def XP(p q:U):U:=Jf (JB p q (q.length-1) (p.length-(q.length-1)) (p.length-(q.length-1))).2
theorem I6(p q:U)(b:Jf q=q)(a:q≠[]):(∀x,ev p x=ev q x*ev (XZ p q) x+ev (XP p q) x)/\(XP p q).length<q.length/\Jf (XZ p q)=XZ p q/\Jf (XP p q)=XP p q:=by
 have d:0<q.length:=Ap.2 a;refine⟨λx=>?_,?_,Y3 _,Y3 _⟩
 . unfold XZ XP;rw[FW,FW];by_cases h:q.length-1<=p.length
   . exact(Lj p q (q.length-1) (p.length-(q.length-1)) O (J3 b a) O _ (Aa _)).1 x
   . rw[show p.length-(q.length-1)=0 from by omega,JB];grind[Hd,JX]
 . unfold XP;refine Cy (XX (n:=q.length-1) λj c=>?_) O;by_cases h:q.length-1<=p.length
   . exact(Lj p q (q.length-1) (p.length-(q.length-1)) O (J3 b a) O _ (Aa _)).2.2 j O
   . rw[show p.length-(q.length-1)=0 from by omega,JB];exact JW (by dsimp only;omega)
def Xb(p q:U):U:=Jf (XY p q)
def Y9(p q:U):U:=Jf (XY p (Ys (-1) q))
def YM(p q:U):U:=Jf (D4 p q)
def Xu(p q:U):Jf (Xb p q)=Xb p q:=Y3 _
def Xv(p q:U):Jf (Y9 p q)=Y9 p q:=Y3 _
def GF(p q:U):Jf (YM p q)=YM p q:=Y3 _
theorem Lk(p q:U)(x:Rat):ev (Xb p q) x=ev p x+ev q x:=by unfold Xb;rw[FW,X9]
theorem Ll(p q:U)(x:Rat):ev (Y9 p q) x=ev p x-ev q x:=by grind[Y9,FW,X9,Xt]
theorem I7(p q:U)(x:Rat):ev (YM p q) x=ev p x*ev q x:=by unfold YM;rw[FW,Lh]
theorem GG(p q:U)(i:Nat):cf (Xb p q) i=cf p i+cf q i:=by unfold Xb;rw[J2,YW]
theorem FY(p q:U)(i:Nat):cf (Y9 p q) i=cf p i-cf q i:=by grind[Y9,J2,YW,YL]
theorem O7(p q:U):(XY p q).length=max p.length q.length:=by
 induction p generalizing q with
 |nil=>rw[XY];simp
 |cons c t a=>
  cases q with
  |nil=>rw[O3];simp
  |cons d s=>grind[XY]
def O8(p q:U):(Xb p q).length<=max p.length q.length:=by
 have:=JY (XY p q);rw[O7]at this;exact this
