import Derived.Test.YteldjhhjnchdeaaGreatDoorW00
set_option maxRecDepth 100000
set_option maxHeartbeats 16000000
namespace Go.Proofs.YteldjhhjnchdeaaGreatDoor
theorem BJ:type_of% @if_pos:=@if_pos
theorem BH:type_of% @if_neg:=@if_neg
def cf(p:List Rat)(i:Nat):Rat:=p[i]?.getD 0
variable{p q:List Rat}{i k n:Nat}{f:Nat->Rat}
theorem Yx(i:Nat):cf [] i=0:=by simp[cf]
theorem YJ(c:Rat)(t:List Rat):cf (c::t) 0=c:=by simp[cf]
theorem J5(c:Rat)(t:List Rat)(i:Nat):cf (c::t) (i+1)=cf t i:=by simp[cf]
theorem J6(h:p.length<=i):cf p i=0:=by simp[cf,List.getElem?_eq_none h]
theorem RZ(h:i<p.length):cf p i=p[i]:=by simp[cf,List.getElem?_eq_getElem h]
theorem XC(p:List Rat)(k:Nat)(c:Rat)(i:Nat)(a:k<p.length):cf (p.set k c) i=if i=k then c else cf p i:=by
 unfold cf;by_cases h:i=k
 . subst h;rw[BJ rfl,A3 a];rfl
 . rw[BH h,AU λe=>h e.symm]
theorem JS(n:Nat)(i:Nat):cf (List.replicate n 0) i=0:=by
 unfold cf;rw[List.getElem?_replicate];split<;>rfl
theorem LQ(n:Nat)(f:Nat->Rat)(i:Nat):cf ((List.range n).map f) i=if i<n then f i else 0:=by
 unfold cf;rw[C0];by_cases h:i<n
 . rw[List.getElem?_range h,BJ h];rfl
 . rw[AP si,BH h];rfl
theorem LR(p:List Rat)(n i:Nat):cf (p.take n) i=if i<n then cf p i else 0:=by
 unfold cf;rw[Fu];split<;>rfl
def Jd:List Rat->List Rat
 |[]=>[]
 |c::t=>match Jd t with
  |[]=>if c=0 then []else [c]
  |d::s=>c::d::s
theorem Yc(p:List Rat)(i:Nat):cf (Jd p) i=cf p i:=by
 induction p generalizing i with
 |nil=>rfl
 |cons c t b=>
  have a:=b;rw[Jd];split
  . rename_i h;rw[h]at a;cases i with
    |zero=>split<;>simp_all [cf]
    |succ i=>
     rw[J5,<-a i,Yx];split
     . rfl
     . rw[J5,Yx]
  . rename_i d s h;rw[<-h];cases i with
    |zero=>rfl
    |succ i=>rw[J5,J5,a]
theorem LS(h:∀i,cf p i=0):Jd p=[]:=by
 induction p with
 |nil=>rfl
 |cons c t d=>
  have a:=d (λi=>by rw[<-J5 c t i];exact h (i+1));have b:c=0:=by rw[<-YJ c t];exact h 0
  rw[Jd,a];show(if c=0 then []else [c])=[];rw[BJ b]
theorem Gx(h:∀i,cf p i=cf q i):Jd p=Jd q:=by
 induction p generalizing q with
 |nil=>rw[LS (p:=q) λi=>by rw[<-h i,Yx]];rfl
 |cons c t e=>
  cases q with
  |nil=>rw[LS (p:=c::t) λi=>by rw[h i,Yx]];rfl
  |cons d s=>
   have a:c=d:=by have:=h 0;rwa[YJ,YJ]at this
   have b:=e (q:=s) (λi=>by have:=h (i+1);rwa[J5,J5]at this);rw[Jd,Jd,a,b]
theorem J9(p:List Rat):Jd (Jd p)=Jd p:=Gx (Yc p)
theorem LT(p:List Rat):(Jd p).length<=p.length:=by
 induction p with
 |nil=>exact Aa _
 |cons c t a=>
  rw[Jd];split
  . split<;>simp
  . rename_i d s h;rw[h]at a;simp only[Ao]at a ⊢;omega
theorem Jw(h:Jd p=p)(f:p≠[]):cf p (p.length-1)≠0:=by
 induction p with
 |nil=>exact absurd rfl f
 |cons c t i=>
  rw[Jd]at h;split at h
  . rename_i b;split at h
    . cases h
    . rename_i a;simp only[List.cons.injEq,true_and]at h;subst h;simpa[cf]using a
  . rename_i d s b;simp only[List.cons.injEq,true_and]at h;have a:Jd t=t:=by rw[b,h]
    have g:=i a (by rw[<-h];simp);have e:(c::t).length-1=(t.length-1)+1:=by rw[<-h];simp
    rw[e,J5];exact g
theorem Ra(h:p=[]\/cf p (p.length-1)≠0):Jd p=p:=by
 induction p with
 |nil=>rfl
 |cons c t a=>
  rcases h with h|h
  . cases h
  . cases t with
    |nil=>rw[Jd];show(if c=0 then []else [c])=[c];rw[BH (by simpa[cf]using h)]
    |cons d s=>
     have e:(c::d::s).length-1=((d::s).length-1)+1:=O
     rw[e,J5]at h;rw[Jd,a (Or.inr h)]
theorem Rb(d:n<=p.length)(a:n=0\/cf p (n-1)≠0)(c:∀j,n<=j->cf p j=0):Jd p=p.take n:=by
 have e:Jd p=Jd (p.take n):=Gx λi=>by
  rw[LR];split
  . rfl
  . exact c i Y
 rw[e];refine Ra ?_;rcases a with a|a
 . left;rw[a];rfl
 . by_cases b:n=0
   . left;rw[b];rfl
   . right
     rw[Ap,CK d,LR,BJ Y];exact a
theorem LU(h:∀j,n<=j->cf p j=0):(Jd p).length<=n:=by
 rcases AZ n (Jd p).length with a|a
 . have b:=Jw (J9 p) (by intro c;rw[c]at a;simp at a);rw[Yc]at b;exact absurd (h _ Y) b
 . exact a
def ev:List Rat->Rat->Rat
 |[],_=>0
 |c::t,x=>c+x*ev t x
theorem Ic(h:∀i,cf p i=0)(x:Rat):ev p x=0:=by
 induction p with
 |nil=>rfl
 |cons c t d=>
  have a:=d (λi=>by rw[<-J5 c t i];exact h (i+1));have b:c=0:=by rw[<-YJ c t];exact h 0
  rw[ev,a,b];grind
theorem Id(h:∀i,cf p i=cf q i)(x:Rat):ev p x=ev q x:=by
 induction p generalizing q with
 |nil=>rw[Ic (p:=q) λi=>by rw[<-h i,Yx]];rfl
 |cons c t e=>
  cases q with
  |nil=>rw[Ic (p:=c::t) λi=>by rw[h i,Yx]];rfl
  |cons d s=>
   have a:c=d:=by have:=h 0;rwa[YJ,YJ]at this
   have b:=e (q:=s) (λi=>by have:=h (i+1);rwa[J5,J5]at this);rw[ev,ev,a,b]
theorem Xq(p:List Rat)(x:Rat):ev (Jd p) x=ev p x:=Id (Yc p) x
def dv:List Rat->Rat->Rat
 |[],_=>0
 |_::t,x=>ev t x+x*dv t x
theorem Ng(h:∀i,cf p i=0)(x:Rat):dv p x=0:=by
 induction p with
 |nil=>rfl
 |cons c t b=>
  have a:∀i,cf t i=0:=λi=>by rw[<-J5 c t i];exact h (i+1)
  rw[dv,b a,Ic a];grind
theorem Rc(h:∀i,cf p i=cf q i)(x:Rat):dv p x=dv q x:=by
 induction p generalizing q with
 |nil=>rw[Ng (p:=q) λi=>by rw[<-h i,Yx]];rfl
 |cons c t b=>
  cases q with
  |nil=>rw[Ng (p:=c::t) λi=>by rw[h i,Yx]];rfl
  |cons d s=>
   have a:∀i,cf t i=cf s i:=λi=>by have:=h (i+1);rwa[J5,J5]at this
   rw[dv,dv,b a,Id a]
def GK:List Rat->Rat->List Rat
 |[],_=>[]
 |_::t,a=>match t with
  |[]=>[]
  |d::s=>ev (d::s) a::GK (d::s) a
theorem Re(p:List Rat)(a:Rat):(GK p a).length=p.length-1:=by
 induction p with
 |nil=>rfl
 |cons c t b=>
  cases t with
  |nil=>rfl
  |cons d s=>
   rw[GK,Ao,b];simp
theorem Nh(p:List Rat)(a x:Rat):ev p x=ev p a+(x-a)*ev (GK p a) x:=by
 induction p with
 |nil=>simp[ev,GK];grind
 |cons c t b=>
  cases t with
  |nil=>simp[ev,GK];grind
  |cons d s=>
   rw[GK];generalize hq:d::s=q at *;rw[ev,ev,ev,b];grind
theorem Rf{m:Nat}(h:∀n:Nat,m<=n->ev p (n:Rat)=0)(x:Rat):ev p x=0:=by
 obtain⟨k,d⟩:=ex (p.length);induction k generalizing p m with
 |zero=>
  have:p=[]:=Az d
  rw[this];rfl
 |succ k j=>
  have c:=h m (Aa _);have e:∀n:Nat,m+1<=n->ev (GK p m) (n:Rat)=0:=λn o=>by
   have a:=Nh p (m:Rat) (n:Rat);rw[h n Y,c]at a;have f:((n:Rat)-(m:Rat))≠0:=by
    intro l;have g:(n:Rat)=(m:Rat):=by grind
    have:=Rat.natCast_inj.1 g;omega
   have i:((n:Rat)-(m:Rat))*ev (GK p m) n=0:=by grind
   rcases C8.1 i with b|b
   . exact absurd b f
   . exact b
  have a:=j e (by rw[Re,d];rfl);rw[Nh p (m:Rat) x,c,a];grind
theorem Rg(h:∀x,ev p x=0)(i:Nat):cf p i=0:=by
 induction p generalizing i with
 |nil=>rfl
 |cons c t l=>
  have b:c=0:=by have:=h 0;rw[ev]at this;grind
  have d:∀x,ev t x=0:=λx=>Rf (m:=1) (λn o=>by
   have e:=h (n:Rat);rw[ev,b]at e;have f:(n:Rat)≠0:=λg=>by
    have j:(n:Rat)=((0:Nat):Rat):=g;have:=Rat.natCast_inj.1 j;omega
   have k:(n:Rat)*ev t n=0:=by grind
   rcases C8.1 k with a|a
   . exact absurd a f
   . exact a) x
  cases i with
  |zero=>rw[YJ];exact b
  |succ i=>rw[J5];exact l d i
def XA:List Rat->List Rat->List Rat
 |[],q=>q
 |p,[]=>p
 |c::t,d::s=>(c+d)::XA t s
def YR(a:Rat)(p:List Rat):List Rat:=p.map λc=>c*a
def EP:List Rat->List Rat->List Rat
 |[],_=>[]
 |c::t,q=>XA (YR c q) (0::EP t q)
theorem Ge(p q:List Rat)(i:Nat):cf (XA p q) i=cf p i+cf q i:=by
 induction p generalizing q i with
 |nil=>rw[XA,Yx];grind
 |cons c t a=>
  cases q with
  |nil=>
   rw[XA,Yx]
   . grind
   . intro h;cases h
  |cons d s=>
   rw[XA];cases i with
   |zero=>simp[cf]
   |succ i=>rw[J5,J5,J5,a]
theorem Hw(a:Rat)(p:List Rat)(i:Nat):cf (YR a p) i=cf p i*a:=by
 unfold cf YR;rw[C0];cases p[i]? with
 |none=>simp
 |some c=>rfl
theorem XO(p q:List Rat)(x:Rat):ev (XA p q) x=ev p x+ev q x:=by
 induction p generalizing q with
 |nil=>rw[XA,ev];grind
 |cons c t a=>
  cases q with
  |nil=>
   rw[XA]
   . rw[show ev [] x=0 from rfl];grind
   . intro h;cases h
  |cons d s=>rw[XA,ev,ev,ev,a];grind
theorem Xh(a:Rat)(p:List Rat)(x:Rat):ev (YR a p) x=ev p x*a:=by
 induction p with
 |nil=>simp[YR,ev]
 |cons c t b=>
  rw[show YR a (c::t)=(c*a)::YR a t from rfl,ev,ev,b];grind
theorem LV(p q:List Rat)(x:Rat):ev (EP p q) x=ev p x*ev q x:=by
 induction p with
 |nil=>rw[EP,ev];grind
 |cons c t a=>rw[EP,XO,Xh,ev,ev,a];grind
theorem Rh(p q:List Rat)(x:Rat):dv (XA p q) x=dv p x+dv q x:=by
 induction p generalizing q with
 |nil=>rw[XA,dv];grind
 |cons c t a=>
  cases q with
  |nil=>
   rw[XA]
   . rw[show dv [] x=0 from rfl];grind
   . intro h;cases h
  |cons d s=>rw[XA,dv,dv,dv,a,XO];grind
theorem Ri(a:Rat)(p:List Rat)(x:Rat):dv (YR a p) x=dv p x*a:=by
 induction p with
 |nil=>simp[YR,dv]
 |cons c t b=>
  rw[show YR a (c::t)=(c*a)::YR a t from rfl,dv,dv,b,Xh];grind
theorem Rj(p q:List Rat)(x:Rat):dv (EP p q) x=dv p x*ev q x+ev p x*dv q x:=by
 induction p with
 |nil=>rw[EP,dv,ev];grind
 |cons c t a=>rw[EP,Rh,Ri,dv,dv,ev,a,LV];grind
theorem KM(h:∀x,ev p x=ev q x):Jd p=Jd q:=by
 have a:∀i,cf (XA p (YR (-1) q)) i=0:=Rg (λx=>by rw[XO,Xh,h x];grind);refine Gx λi=>?_;have:=a i;rw[Ge,Hw]at this;grind
def Dj:Nat->(Nat->Rat)->Rat
 |0,_=>0
 |n+1,f=>Dj n f+f n
theorem Rk{g:Nat->Rat}(h:∀k,k<n->f k=g k):Dj n f=Dj n g:=by
 induction n with
 |zero=>rfl
 |succ n a=>rw[Dj,Dj,a λk b=>h k Y,h n Y]
theorem LW(h:∀k,k<n->f k=0):Dj n f=0:=by
 induction n with
 |zero=>rfl
 |succ n a=>rw[Dj,a λk b=>h k Y,h n Y];grind
theorem Rl(n:Nat)(f:Nat->Rat):Dj (n+1) f=f 0+Dj n (λk=>f (k+1)):=by
 induction n with
 |zero=>simp[Dj];grind
 |succ n a=>rw[Dj,a,Dj];grind
def conv(p q:List Rat)(n k:Nat):Rat:=Dj n λi=>if i<=k then cf p i*cf q (k-i)else 0
theorem Hx(p q:List Rat)(k:Nat):cf (EP p q) k=conv p q p.length k:=by
 induction p generalizing k with
 |nil=>rfl
 |cons c t b=>
  rw[EP,Ge,Hw,conv,Ao,Rl];rw[BJ (AK _),YJ,Fa];have e:cf (0::EP t q) k=Dj t.length (λi=>if i+1<=k then cf (c::t) (i+1)*cf q (k-(i+1))else 0):=by
   cases k with
   |zero=>
    rw[YJ,LW];intro i a;rw[BH Y]
   |succ k=>
    rw[J5,b,conv];refine Rk λi a=>?_;by_cases h:i<=k
    . rw[BJ h,BJ Y,J5,show k+1-(i+1)=k-i from by omega]
    . rw[BH h,BH Y]
  rw[e];grind
theorem Rm(p q:List Rat)(h:p.length<=n):conv p q n k=conv p q p.length k:=by
 induction n with
 |zero=>rw[show p.length=0 from by omega]
 |succ n b=>
  by_cases a:p.length=n+1
  . rw[a]
  . rw[<-b Y];show conv p q n k+_=_
    dsimp only;rw[J6 (show p.length<=n from by omega)];split<;>grind
theorem Rn(h:p.length+q.length<=k+1):cf (EP p q) k=0:=by
 rw[Hx];refine LW λi a=>?_;split
 . rw[J6 (p:=q) Y];grind
 . rfl
theorem LX(p q:List Rat)(m n:Nat)(hp:p.length=m+1)(hq:q.length=n+1):cf (EP p q) (m+n)=cf p m*cf q n:=by
 rw[Hx,hp,conv,Dj,BJ Y,show m+n-m=n from by omega];rw[LW]
 . grind
 . intro i a;split
   . rw[J6 (p:=q) Y];grind
   . rfl
theorem Ni(hp:Jd p=p)(hq:Jd q=q)(d:p≠[])(e:q≠[]):(Jd (EP p q)).length=p.length+q.length-1:=by
 have f:=Jw hp d;have g:=Jw hq e;have l1:0<p.length:=Ai.2 d;have l2:0<q.length:=Ai.2 e;have i:=LX p q (p.length-1) (q.length-1) Y Y;have b:cf (EP p q) (p.length-1+(q.length-1))≠0:=by
  rw[i];intro c;rcases C8.1 c with a|a
  . exact f a
  . exact g a
 have c:(Jd (EP p q)).length<=p.length+q.length-1:=LU λj k=>Rn Y;rcases AZ (Jd (EP p q)).length (p.length+q.length-1)with a|a
 . rw[<-Yc]at b;exact absurd (J6 Y) b
 . omega
def Gy(p:List Rat):List Rat:=(List.range (p.length-1)).map λi=>cf p (i+1)*((i+1:Nat):Rat)
theorem Hy(p:List Rat)(i:Nat):cf (Gy p) i=cf p (i+1)*((i+1:Nat):Rat):=by
 unfold Gy;rw[LQ];split
 . rfl
 . rw[J6 Y];grind
theorem Ro(p:List Rat)(x:Rat):ev (Gy p) x=dv p x:=by
 induction p with
 |nil=>rfl
 |cons c t a=>
  have e:∀i,cf (Gy (c::t)) i=cf (XA t (0::Gy t)) i:=λi=>by
   rw[Hy,Ge,J5];cases i with
   |zero=>rw[YJ];grind
   |succ i=>rw[J5,Hy];grind
  rw[Id e,XO,ev,a,dv];grind
theorem Rp(p:List Rat):XA p []=p:=by cases p<;>rfl
theorem Rq{u v a b:List Rat}(hq:Jd q=q)(r:q≠[])(s:Jd u=u)(t:Jd a=a)(w:Jd v=v)(y:Jd b=b)(C:v.length<q.length)(D:b.length<q.length)
(h:∀x,ev q x*ev u x+ev v x=ev q x*ev a x+ev b x):u=a/\v=b:=by
 obtain⟨d,g⟩:=ex (Jd (XA u (YR (-1) a)));have k:Jd d=d:=by rw[<-g,J9]
 have e:∀x,ev d x=ev u x-ev a x:=λx=>by rw[<-g,Xq,XO,Xh];grind
 have l:∀x,ev (EP d q) x=ev (XA b (YR (-1) v)) x:=λx=>by
  rw[LV,XO,Xh,e];have:=h x;grind
 have o:=KM l;have z:(Jd (XA b (YR (-1) v))).length<q.length:=by
  refine Cb (LU (n:=q.length-1) λj B=>?_) Y;rw[Ge,Hw,J6 Y,J6 Y];grind
 have i:d=[]:=by
  by_cases c:d=[]
  . exact c
  . have p:=Ni k hq c r;have A:0<d.length:=Ai.2 c;rw[o]at p;omega
 have m:∀x,ev u x=ev a x:=λx=>by
  have:=e x;rw[i,show ev [] x=0 from rfl]at this;grind
 have f:u=a:=by rw[<-s,<-t];exact KM m
 refine⟨f,?_⟩;rw[<-w,<-y];exact KM λx=>by
  have:=h x;rw[f]at this;grind
def Ep(i:Nat)(q:List Rat):List Rat:=List.replicate i 0++q
theorem KN(i:Nat)(q:List Rat)(k:Nat):cf (Ep i q) k=if i<=k then cf q (k-i)else 0:=by
 unfold cf Ep;by_cases h:k<i
 . rw[A5 (by simpa using h),BH Y,List.getElem?_replicate];split<;>rfl
 . rw[AW si,BJ Y];simp
theorem Nj(i:Nat)(q:List Rat)(x:Rat):ev (Ep i q) x=x^i*ev q x:=by
 induction i with
 |zero=>rw[show Ep 0 q=q from rfl];grind
 |succ i a=>
  rw[show Ep (i+1) q=0::Ep i q from rfl,ev,a];grind
def Yz(z:List Rat)(i:Nat)(a:Rat)(q:List Rat):Nat->List Rat
 |0=>z
 |j+1=>(Yz z i a q j).set (i+j) (cf (Yz z i a q j) (i+j)+a*cf q j)
theorem Yn(z:List Rat)(i:Nat)(a:Rat)(q:List Rat)(j:Nat):(Yz z i a q j).length=z.length:=by
 induction j with
 |zero=>rfl
 |succ j b=>rw[Yz,CA,b]
theorem Rr(z:List Rat)(i:Nat)(a:Rat)(q:List Rat)(j k:Nat)(h:i+j<=z.length):cf (Yz z i a q j) k=cf z k+(if i<=k/\k<i+j then a*cf q (k-i)else 0):=by
 induction j with
 |zero=>rw[Yz,BH Y];grind
 |succ j b=>
  have b:=b Y;rw[Yz,XC _ _ _ _ (by rw[Yn];omega)];by_cases c:k=i+j
  . subst c;rw[BJ rfl,b,BH Y,BJ Y,show i+j-i=j from by omega];grind
  . rw[BH c,b];by_cases d:i<=k/\k<i+j
    . rw[BJ d,BJ Y]
    . rw[BH d,BH Y]
theorem LY(z:List Rat)(i:Nat)(a:Rat)(q:List Rat)(k:Nat)(h:i+q.length<=z.length):cf (Yz z i a q q.length) k=cf z k+a*cf (Ep i q) k:=by
 rw[Rr _ _ _ _ _ _ h,KN];by_cases b:i<=k
 . by_cases c:k<i+q.length
   . rw[BJ ⟨b,c⟩,BJ b]
   . rw[BH Y,BJ b,J6 (p:=q) Y];grind
 . rw[BH Y,BH b];grind
theorem Rs(z:List Rat)(i:Nat)(a:Rat)(q:List Rat)(x:Rat)(h:i+q.length<=z.length):ev (Yz z i a q q.length) x=ev z x+a*(x^i*ev q x):=by
 have e:∀k,cf (Yz z i a q q.length) k=cf (XA z (YR a (Ep i q))) k:=λk=>by
  rw[LY _ _ _ _ _ h,Ge,Hw];grind
 rw[Id e,XO,Xh,Nj];grind
def XB(p q:List Rat)(n:Nat):Nat->List Rat
 |0=>List.replicate n 0
 |i+1=>Yz (XB p q n i) i (cf p i) q q.length
theorem LZ(p q:List Rat)(n i:Nat):(XB p q n i).length=n:=by
 induction i with
 |zero=>rw[XB,Au]
 |succ i a=>rw[XB,Yn,a]
theorem Nk(p q:List Rat)(n i k:Nat)(h:i=0\/i+q.length<=n+1):cf (XB p q n i) k=conv p q i k:=by
 induction i with
 |zero=>rw[XB,JS];rfl
 |succ i a=>
  rw[XB,LY _ _ _ _ _ (by rw[LZ];omega),a Y,KN];show _=conv p q i k+_
  dsimp only;split<;>grind
def Jz(p q:List Rat)(n m:Nat):Nat->List Rat × List Rat
 |0=>(List.replicate m 0,p)
 |k+1=>
  let s:=Jz p q n m k
  let i:=m-(k+1)
  let c:=cf s.2 (i+n)/cf q n
  (s.1.set i c,Yz s.2 i (-c) q q.length)
theorem YV(p q:List Rat)(n m k:Nat):(Jz p q n m k).1.length=m/\(Jz p q n m k).2.length=p.length:=by
 induction k with
 |zero=>exact⟨Au,rfl⟩
 |succ k a=>rw[Jz];exact⟨by rw[CA];exact a.1,by rw[Yn];exact a.2⟩
theorem Rt(p:List Rat)(i:Nat)(c:Rat)(x:Rat)(d:i<p.length)(b:cf p i=0):ev (p.set i c) x=ev p x+c*x^i:=by
 have e:∀k,cf (p.set i c) k=cf (XA p (Ep i [c])) k:=λk=>by
  rw[XC _ _ _ _ d,Ge,KN];by_cases h:k=i
  . subst h;rw[BJ rfl,BJ (Aa _),b,A7,YJ];grind
  . rw[BH h];by_cases a:i<=k
    . rw[BJ a,J6 (p:=[c]) si];grind
    . rw[BH a];grind
 rw[Id e,XO,Nj];simp[ev];grind
theorem Nl(p q:List Rat)(n m:Nat)(hq:q.length=n+1)(hl:cf q n≠0)(v:m+n=p.length):∀k,k<=m->
 (∀x,ev p x=ev q x*ev (Jz p q n m k).1 x+ev (Jz p q n m k).2 x)/\(∀j,j<m-k->cf (Jz p q n m k).1 j=0)/\(∀j,m-k+n<=j->cf (Jz p q n m k).2 j=0):=by
 intro k;induction k with
 |zero=>
  intro _;refine⟨λx=>?_,λj _=>JS _ _,λj e=>J6 (by show p.length<=j;omega)⟩;rw[Jz];dsimp only;rw[Ic (JS m)];grind
 |succ k r=>
  intro u;obtain⟨f,b,g⟩:=r Y;obtain⟨l1,l2⟩:=YV p q n m k;rw[Jz];dsimp only;generalize hs:Jz p q n m k=s at *;obtain⟨i,o⟩:=ex (m-(k+1));rw[o];obtain⟨c,d⟩:=ex (cf s.2 (i+n)/cf q n);rw[d];have a:i+q.length<=s.2.length:=Y
  have t:c*cf q n=cf s.2 (i+n):=by rw[<-d];exact A4 hl
  refine⟨λx=>?_,λj e=>?_,λj e=>?_⟩
  . rw[Rt _ _ _ _ Y (b i Y),Rs _ _ _ _ _ a,f x];grind
  . rw[XC _ _ _ _ Y,BH Y];exact b j Y
  . rw[LY _ _ _ _ _ a,KN,BJ Y];by_cases l:j=i+n
    . subst l;rw[show i+n-i=n from by omega];grind
    . rw[g j Y,J6 (p:=q) Y];grind
def Jt(p q:List Rat):List Rat:=Jd (Jz p q (q.length-1) (p.length-(q.length-1)) (p.length-(q.length-1))).1
def JZ(p q:List Rat):List Rat:=Jd (Jz p q (q.length-1) (p.length-(q.length-1)) (p.length-(q.length-1))).2
theorem YW(p q:List Rat)(hq:Jd q=q)(a:q≠[]):(∀x,ev p x=ev q x*ev (Jt p q) x+ev (JZ p q) x)/\(JZ p q).length<q.length/\Jd (Jt p q)=Jt p q/\Jd (JZ p q)=JZ p q:=by
 have l1:0<q.length:=Ai.2 a;refine⟨λx=>?_,?_,J9 _,J9 _⟩
 . unfold Jt JZ;rw[Xq,Xq];by_cases h:q.length-1<=p.length
   . exact(Nl p q (q.length-1) (p.length-(q.length-1)) Y (Jw hq a) Y _ (Aa _)).1 x
   . rw[show p.length-(q.length-1)=0 from by omega,Jz];dsimp only;rw[Ic (JS 0)];grind
 . unfold JZ;refine Cb (LU (n:=q.length-1) λj b=>?_) Y;by_cases h:q.length-1<=p.length
   . exact(Nl p q (q.length-1) (p.length-(q.length-1)) Y (Jw hq a) Y _ (Aa _)).2.2 j Y
   . rw[show p.length-(q.length-1)=0 from by omega,Jz];exact J6 (by dsimp only;omega)
def XD(p q:List Rat):List Rat:=Jd (XA p q)
def JE(p q:List Rat):List Rat:=Jd (XA p (YR (-1) q))
def Jo(p q:List Rat):List Rat:=Jd (EP p q)
def Je(p:List Rat):List Rat:=Jd (Gy p)
theorem Hz(p q:List Rat):Jd (XD p q)=XD p q:=J9 _
theorem Yi(p q:List Rat):Jd (JE p q)=JE p q:=J9 _
theorem Jy(p q:List Rat):Jd (Jo p q)=Jo p q:=J9 _
theorem JV(p:List Rat):Jd (Je p)=Je p:=J9 _
theorem Y6(p q:List Rat)(x:Rat):ev (XD p q) x=ev p x+ev q x:=by unfold XD;rw[Xq,XO]
theorem XP(p q:List Rat)(x:Rat):ev (JE p q) x=ev p x-ev q x:=by unfold JE;rw[Xq,XO,Xh];grind
theorem Ji(p q:List Rat)(x:Rat):ev (Jo p q) x=ev p x*ev q x:=by unfold Jo;rw[Xq,LV]
theorem KO(p:List Rat)(x:Rat):ev (Je p) x=dv p x:=by unfold Je;rw[Xq,Ro]
theorem Ru(p q:List Rat)(i:Nat):cf (XD p q) i=cf p i+cf q i:=by unfold XD;rw[Yc,Ge]
theorem La(p q:List Rat)(i:Nat):cf (JE p q) i=cf p i-cf q i:=by unfold JE;rw[Yc,Ge,Hw];grind
theorem Rv(p q:List Rat):(XA p q).length=max p.length q.length:=by
 induction p generalizing q with
 |nil=>rw[XA];simp
 |cons c t a=>
  cases q with
  |nil=>rw[Rp];simp
  |cons d s=>rw[XA,Ao,a,Ao,Ao];omega
theorem Rw(p q:List Rat):(XD p q).length<=max p.length q.length:=by
 have:=LT (XA p q);rw[Rv]at this;exact this
theorem YT(hp:Jd p=p)(hq:Jd q=q)(h:∀x,ev p x=ev q x):p=q:=by rw[<-hp,<-hq];exact KM h
theorem Rx(p q:List Rat):Je (Jo p q)=XD (Jo (Je p) q) (Jo p (Je q)):=by
 refine YT (JV _) (Hz _ _) λx=>?_;rw[KO,Y6,Ji,Ji,KO,KO,<-Rj];exact Rc (λi=>by unfold Jo;rw[Yc]) x
