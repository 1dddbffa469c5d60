import Derived.Test.YteldjhhjnchdeaaGreatDoorW00
set_option maxRecDepth 100000
set_option maxHeartbeats 16000000
namespace Go.Proofs.YteldjhhjnchdeaaGreatDoor
theorem BJ:type_of% @if_pos:=@if_pos
theorem BH:type_of% @if_neg:=@if_neg
def cf(p:List Rat)(i:Nat):Rat:=p[i]?.getD 0
variable{p q:List Rat}{i k n:Nat}{f:Nat->Rat}
theorem Yy(i:Nat):cf [] i=0:=by simp[cf]
theorem YK(c:Rat)(t:List Rat):cf (c::t) 0=c:=by simp[cf]
theorem J4(c:Rat)(t:List Rat)(i:Nat):cf (c::t) (i+1)=cf t i:=by simp[cf]
theorem J6(h:p.length<=i):cf p i=0:=by simp[cf,List.getElem?_eq_none h]
theorem RY(h:i<p.length):cf p i=p[i]:=by simp[cf,List.getElem?_eq_getElem h]
theorem XE(p:List Rat)(k:Nat)(c:Rat)(i:Nat)(a:k<p.length):cf (p.set k c) i=if i=k then c else cf p i:=by
 unfold cf;by_cases h:i=k
 . subst h;rw[BJ rfl,A3 a];rfl
 . rw[BH h,AU λe=>h e.symm]
theorem JS(n:Nat)(i:Nat):cf (List.replicate n 0) i=0:=by
 unfold cf;rw[List.getElem?_replicate];split<;>rfl
theorem LX(n:Nat)(f:Nat->Rat)(i:Nat):cf ((List.range n).map f) i=if i<n then f i else 0:=by
 unfold cf;rw[CZ];by_cases h:i<n
 . rw[List.getElem?_range h,BJ h];rfl
 . rw[AP si,BH h];rfl
theorem LY(p:List Rat)(n i:Nat):cf (p.take n) i=if i<n then cf p i else 0:=by
 unfold cf;rw[Fu];split<;>rfl
def Jd:List Rat->List Rat
 |[]=>[]
 |c::t=>match Jd t with
  |[]=>if c=0 then []else [c]
  |d::s=>c::d::s
theorem Yd(p:List Rat)(i:Nat):cf (Jd p) i=cf p i:=by
 induction p generalizing i with
 |nil=>rfl
 |cons c t b=>
  have a:=b;rw[Jd];split
  . rename_i h;rw[h]at a;cases i with
    |zero=>split<;>simp_all [cf]
    |succ i=>
     rw[J4,<-a i,Yy];split
     . rfl
     . rw[J4,Yy]
  . rename_i d s h;rw[<-h];cases i with
    |zero=>rfl
    |succ i=>rw[J4,J4,a]
theorem LZ(h:∀i,cf p i=0):Jd p=[]:=by
 induction p with
 |nil=>rfl
 |cons c t d=>
  have a:=d (λi=>by rw[<-J4 c t i];exact h (i+1));have b:c=0:=by rw[<-YK c t];exact h 0
  rw[Jd,a];show(if c=0 then []else [c])=[];rw[BJ b]
theorem Ha(h:∀i,cf p i=cf q i):Jd p=Jd q:=by
 induction p generalizing q with
 |nil=>rw[LZ (p:=q) λi=>by rw[<-h i,Yy]];rfl
 |cons c t e=>
  cases q with
  |nil=>rw[LZ (p:=c::t) λi=>by rw[h i,Yy]];rfl
  |cons d s=>
   have a:c=d:=by have:=h 0;rwa[YK,YK]at this
   have b:=e (q:=s) (λi=>by have:=h (i+1);rwa[J4,J4]at this);rw[Jd,Jd,a,b]
theorem Ya(p:List Rat):Jd (Jd p)=Jd p:=Ha (Yd p)
theorem La(p:List Rat):(Jd p).length<=p.length:=by
 induction p with
 |nil=>exact Aa _
 |cons c t a=>
  rw[Jd];split
  . split<;>simp
  . rename_i d s h;rw[h]at a;simp only[Ao]at a ⊢;omega
theorem Jw(h:Jd p=p)(f:p≠[]):cf p (p.length-1)≠0:=by
 induction p with
 |nil=>exact absurd rfl f
 |cons c t i=>
  rw[Jd]at h;split at h
  . rename_i b;split at h
    . cases h
    . rename_i a;simp only[List.cons.injEq,true_and]at h;subst h;simpa[cf]using a
  . rename_i d s b;simp only[List.cons.injEq,true_and]at h;have a:Jd t=t:=by rw[b,h]
    have g:=i a (by rw[<-h];simp);have e:(c::t).length-1=(t.length-1)+1:=by rw[<-h];simp
    rw[e,J4];exact g
theorem RZ(h:p=[]\/cf p (p.length-1)≠0):Jd p=p:=by
 induction p with
 |nil=>rfl
 |cons c t a=>
  rcases h with h|h
  . cases h
  . cases t with
    |nil=>rw[Jd];show(if c=0 then []else [c])=[c];rw[BH (by simpa[cf]using h)]
    |cons d s=>
     have e:(c::d::s).length-1=((d::s).length-1)+1:=J
     rw[e,J4]at h;rw[Jd,a (Or.inr h)]
theorem Ra(d:n<=p.length)(a:n=0\/cf p (n-1)≠0)(c:∀j,n<=j->cf p j=0):Jd p=p.take n:=by
 have e:Jd p=Jd (p.take n):=Ha λi=>by
  rw[LY];split
  . rfl
  . exact c i Z
 rw[e];refine RZ ?_;rcases a with a|a
 . left;rw[a];rfl
 . by_cases b:n=0
   . left;rw[b];rfl
   . right
     rw[Ap,CJ d,LY,BJ Z];exact a
theorem Lb(h:∀j,n<=j->cf p j=0):(Jd p).length<=n:=by
 rcases AZ n (Jd p).length with a|a
 . have b:=Jw (Ya p) (by intro c;rw[c]at a;simp at a);rw[Yd]at b;exact absurd (h _ Z) b
 . exact a
def ev:List Rat->Rat->Rat
 |[],_=>0
 |c::t,x=>c+x*ev t x
theorem Ie(h:∀i,cf p i=0)(x:Rat):ev p x=0:=by
 induction p with
 |nil=>rfl
 |cons c t d=>
  have a:=d (λi=>by rw[<-J4 c t i];exact h (i+1));have b:c=0:=by rw[<-YK c t];exact h 0
  rw[ev,a,b];grind
theorem Ig(h:∀i,cf p i=cf q i)(x:Rat):ev p x=ev q x:=by
 induction p generalizing q with
 |nil=>rw[Ie (p:=q) λi=>by rw[<-h i,Yy]];rfl
 |cons c t e=>
  cases q with
  |nil=>rw[Ie (p:=c::t) λi=>by rw[h i,Yy]];rfl
  |cons d s=>
   have a:c=d:=by have:=h 0;rwa[YK,YK]at this
   have b:=e (q:=s) (λi=>by have:=h (i+1);rwa[J4,J4]at this);rw[ev,ev,a,b]
theorem Xt(p:List Rat)(x:Rat):ev (Jd p) x=ev p x:=Ig (Yd p) x
def dv:List Rat->Rat->Rat
 |[],_=>0
 |_::t,x=>ev t x+x*dv t x
theorem Ni(h:∀i,cf p i=0)(x:Rat):dv p x=0:=by
 induction p with
 |nil=>rfl
 |cons c t b=>
  have a:∀i,cf t i=0:=λi=>by rw[<-J4 c t i];exact h (i+1)
  rw[dv,b a,Ie a];grind
theorem Rb(h:∀i,cf p i=cf q i)(x:Rat):dv p x=dv q x:=by
 induction p generalizing q with
 |nil=>rw[Ni (p:=q) λi=>by rw[<-h i,Yy]];rfl
 |cons c t b=>
  cases q with
  |nil=>rw[Ni (p:=c::t) λi=>by rw[h i,Yy]];rfl
  |cons d s=>
   have a:∀i,cf t i=cf s i:=λi=>by have:=h (i+1);rwa[J4,J4]at this
   rw[dv,dv,b a,Ig a]
def GM:List Rat->Rat->List Rat
 |[],_=>[]
 |_::t,a=>match t with
  |[]=>[]
  |d::s=>ev (d::s) a::GM (d::s) a
theorem Rc(p:List Rat)(a:Rat):(GM p a).length=p.length-1:=by
 induction p with
 |nil=>rfl
 |cons c t b=>
  cases t with
  |nil=>rfl
  |cons d s=>
   rw[GM,Ao,b];simp
theorem Nj(p:List Rat)(a x:Rat):ev p x=ev p a+(x-a)*ev (GM p a) x:=by
 induction p with
 |nil=>simp[ev,GM];grind
 |cons c t b=>
  cases t with
  |nil=>simp[ev,GM];grind
  |cons d s=>
   rw[GM];generalize hq:d::s=q at *;rw[ev,ev,ev,b];grind
theorem Re{m:Nat}(h:∀n:Nat,m<=n->ev p (n:Rat)=0)(x:Rat):ev p x=0:=by
 obtain⟨k,d⟩:=ex (p.length);induction k generalizing p m with
 |zero=>
  have:p=[]:=Ay d;rw[this];rfl
 |succ k j=>
  have c:=h m (Aa _);have e:∀n:Nat,m+1<=n->ev (GM p m) (n:Rat)=0:=λn o=>by
   have a:=Nj p (m:Rat) (n:Rat);rw[h n Z,c]at a;have f:((n:Rat)-(m:Rat))≠0:=by
    intro l;have g:(n:Rat)=(m:Rat):=by grind
    have:=Rat.natCast_inj.1 g;omega
   have i:((n:Rat)-(m:Rat))*ev (GM p m) n=0:=by grind
   rcases C8.1 i with b|b
   . exact absurd b f
   . exact b
  have a:=j e (by rw[Rc,d];rfl);rw[Nj p (m:Rat) x,c,a];grind
theorem Rf(h:∀x,ev p x=0)(i:Nat):cf p i=0:=by
 induction p generalizing i with
 |nil=>rfl
 |cons c t l=>
  have b:c=0:=by have:=h 0;rw[ev]at this;grind
  have d:∀x,ev t x=0:=λx=>Re (m:=1) (λn o=>by
   have e:=h (n:Rat);rw[ev,b]at e;have f:(n:Rat)≠0:=λg=>by
    have j:(n:Rat)=((0:Nat):Rat):=g;have:=Rat.natCast_inj.1 j;omega
   have k:(n:Rat)*ev t n=0:=by grind
   rcases C8.1 k with a|a
   . exact absurd a f
   . exact a) x
  cases i with
  |zero=>rw[YK];exact b
  |succ i=>rw[J4];exact l d i
def XC:List Rat->List Rat->List Rat
 |[],q=>q
 |p,[]=>p
 |c::t,d::s=>(c+d)::XC t s
def YS(a:Rat)(p:List Rat):List Rat:=p.map λc=>c*a
def EX:List Rat->List Rat->List Rat
 |[],_=>[]
 |c::t,q=>XC (YS c q) (0::EX t q)
theorem Gl(p q:List Rat)(i:Nat):cf (XC p q) i=cf p i+cf q i:=by
 induction p generalizing q i with
 |nil=>rw[XC,Yy];grind
 |cons c t a=>
  cases q with
  |nil=>
   rw[XC,Yy]
   . grind
   . intro h;cases h
  |cons d s=>
   rw[XC];cases i with
   |zero=>simp[cf]
   |succ i=>rw[J4,J4,J4,a]
theorem Hx(a:Rat)(p:List Rat)(i:Nat):cf (YS a p) i=cf p i*a:=by
 unfold cf YS;rw[CZ];cases p[i]? with
 |none=>simp
 |some c=>rfl
theorem XN(p q:List Rat)(x:Rat):ev (XC p q) x=ev p x+ev q x:=by
 induction p generalizing q with
 |nil=>rw[XC,ev];grind
 |cons c t a=>
  cases q with
  |nil=>
   rw[XC]
   . rw[show ev [] x=0 from rfl];grind
   . intro h;cases h
  |cons d s=>rw[XC,ev,ev,ev,a];grind
theorem Xl(a:Rat)(p:List Rat)(x:Rat):ev (YS a p) x=ev p x*a:=by
 induction p with
 |nil=>simp[YS,ev]
 |cons c t b=>
  rw[show YS a (c::t)=(c*a)::YS a t from rfl,ev,ev,b];grind
theorem Lc(p q:List Rat)(x:Rat):ev (EX p q) x=ev p x*ev q x:=by
 induction p with
 |nil=>rw[EX,ev];grind
 |cons c t a=>rw[EX,XN,Xl,ev,ev,a];grind
theorem Rg(p q:List Rat)(x:Rat):dv (XC p q) x=dv p x+dv q x:=by
 induction p generalizing q with
 |nil=>rw[XC,dv];grind
 |cons c t a=>
  cases q with
  |nil=>
   rw[XC]
   . rw[show dv [] x=0 from rfl];grind
   . intro h;cases h
  |cons d s=>rw[XC,dv,dv,dv,a,XN];grind
theorem Rh(a:Rat)(p:List Rat)(x:Rat):dv (YS a p) x=dv p x*a:=by
 induction p with
 |nil=>simp[YS,dv]
 |cons c t b=>
  rw[show YS a (c::t)=(c*a)::YS a t from rfl,dv,dv,b,Xl];grind
theorem Ri(p q:List Rat)(x:Rat):dv (EX p q) x=dv p x*ev q x+ev p x*dv q x:=by
 induction p with
 |nil=>rw[EX,dv,ev];grind
 |cons c t a=>rw[EX,Rg,Rh,dv,dv,ev,a,Lc];grind
theorem KQ(h:∀x,ev p x=ev q x):Jd p=Jd q:=by
 have a:∀i,cf (XC p (YS (-1) q)) i=0:=Rf (λx=>by rw[XN,Xl,h x];grind);refine Ha λi=>?_;have:=a i;rw[Gl,Hx]at this;grind
def Dk:Nat->(Nat->Rat)->Rat
 |0,_=>0
 |n+1,f=>Dk n f+f n
theorem Rj{g:Nat->Rat}(h:∀k,k<n->f k=g k):Dk n f=Dk n g:=by
 induction n with
 |zero=>rfl
 |succ n a=>rw[Dk,Dk,a λk b=>h k Z,h n Z]
theorem Ld(h:∀k,k<n->f k=0):Dk n f=0:=by
 induction n with
 |zero=>rfl
 |succ n a=>rw[Dk,a λk b=>h k Z,h n Z];grind
theorem Rk(n:Nat)(f:Nat->Rat):Dk (n+1) f=f 0+Dk n (λk=>f (k+1)):=by
 induction n with
 |zero=>simp[Dk];grind
 |succ n a=>rw[Dk,a,Dk];grind
def conv(p q:List Rat)(n k:Nat):Rat:=Dk n λi=>if i<=k then cf p i*cf q (k-i)else 0
theorem Hy(p q:List Rat)(k:Nat):cf (EX p q) k=conv p q p.length k:=by
 induction p generalizing k with
 |nil=>rfl
 |cons c t b=>
  rw[EX,Gl,Hx,conv,Ao,Rk];rw[BJ (AK _),YK,Fa];have e:cf (0::EX t q) k=Dk t.length (λi=>if i+1<=k then cf (c::t) (i+1)*cf q (k-(i+1))else 0):=by
   cases k with
   |zero=>
    rw[YK,Ld];intro i a;rw[BH Z]
   |succ k=>
    rw[J4,b,conv];refine Rj λi a=>?_;by_cases h:i<=k
    . rw[BJ h,BJ Z,J4,show k+1-(i+1)=k-i from by omega]
    . rw[BH h,BH Z]
  rw[e];grind
theorem Rl(p q:List Rat)(h:p.length<=n):conv p q n k=conv p q p.length k:=by
 induction n with
 |zero=>rw[show p.length=0 from by omega]
 |succ n b=>
  by_cases a:p.length=n+1
  . rw[a]
  . rw[<-b Z];show conv p q n k+_=_
    dsimp only;rw[J6 (show p.length<=n from by omega)];split<;>grind
theorem Rm(h:p.length+q.length<=k+1):cf (EX p q) k=0:=by
 rw[Hy];refine Ld λi a=>?_;split
 . rw[J6 (p:=q) Z];grind
 . rfl
theorem Le(p q:List Rat)(m n:Nat)(hp:p.length=m+1)(hq:q.length=n+1):cf (EX p q) (m+n)=cf p m*cf q n:=by
 rw[Hy,hp,conv,Dk,BJ Z,show m+n-m=n from by omega];rw[Ld]
 . grind
 . intro i a;split
   . rw[J6 (p:=q) Z];grind
   . rfl
theorem Nk(hp:Jd p=p)(hq:Jd q=q)(d:p≠[])(e:q≠[]):(Jd (EX p q)).length=p.length+q.length-1:=by
 have f:=Jw hp d;have g:=Jw hq e;have l1:0<p.length:=Aj.2 d;have l2:0<q.length:=Aj.2 e;have i:=Le p q (p.length-1) (q.length-1) Z Z;have b:cf (EX p q) (p.length-1+(q.length-1))≠0:=by
  rw[i];intro c;rcases C8.1 c with a|a
  . exact f a
  . exact g a
 have c:(Jd (EX p q)).length<=p.length+q.length-1:=Lb λj k=>Rm Z;rcases AZ (Jd (EX p q)).length (p.length+q.length-1)with a|a
 . rw[<-Yd]at b;exact absurd (J6 Z) b
 . omega
def Hb(p:List Rat):List Rat:=(List.range (p.length-1)).map λi=>cf p (i+1)*((i+1:Nat):Rat)
theorem Hz(p:List Rat)(i:Nat):cf (Hb p) i=cf p (i+1)*((i+1:Nat):Rat):=by
 unfold Hb;rw[LX];split
 . rfl
 . rw[J6 Z];grind
theorem Rn(p:List Rat)(x:Rat):ev (Hb p) x=dv p x:=by
 induction p with
 |nil=>rfl
 |cons c t a=>
  have e:∀i,cf (Hb (c::t)) i=cf (XC t (0::Hb t)) i:=λi=>by
   rw[Hz,Gl,J4];cases i with
   |zero=>rw[YK];grind
   |succ i=>rw[J4,Hz];grind
  rw[Ig e,XN,ev,a,dv];grind
theorem Ro(p:List Rat):XC p []=p:=by cases p<;>rfl
theorem Rp{u v a b:List Rat}(hq:Jd q=q)(r:q≠[])(s:Jd u=u)(t:Jd a=a)(w:Jd v=v)(y:Jd b=b)(C:v.length<q.length)(D:b.length<q.length)
(h:∀x,ev q x*ev u x+ev v x=ev q x*ev a x+ev b x):u=a/\v=b:=by
 obtain⟨d,g⟩:=ex (Jd (XC u (YS (-1) a)));have k:Jd d=d:=by rw[<-g,Ya]
 have e:∀x,ev d x=ev u x-ev a x:=λx=>by rw[<-g,Xt,XN,Xl];grind
 have l:∀x,ev (EX d q) x=ev (XC b (YS (-1) v)) x:=λx=>by
  rw[Lc,XN,Xl,e];have:=h x;grind
 have o:=KQ l;have z:(Jd (XC b (YS (-1) v))).length<q.length:=by
  refine Cf (Lb (n:=q.length-1) λj B=>?_) Z;rw[Gl,Hx,J6 Z,J6 Z];grind
 have i:d=[]:=by
  by_cases c:d=[]
  . exact c
  . have p:=Nk k hq c r;have A:0<d.length:=Aj.2 c;rw[o]at p;omega
 have m:∀x,ev u x=ev a x:=λx=>by
  have:=e x;rw[i,show ev [] x=0 from rfl]at this;grind
 have f:u=a:=by rw[<-s,<-t];exact KQ m
 refine⟨f,?_⟩;rw[<-w,<-y];exact KQ λx=>by
  have:=h x;rw[f]at this;grind
def Ev(i:Nat)(q:List Rat):List Rat:=List.replicate i 0++q
theorem KR(i:Nat)(q:List Rat)(k:Nat):cf (Ev i q) k=if i<=k then cf q (k-i)else 0:=by
 unfold cf Ev;by_cases h:k<i
 . rw[A5 (by simpa using h),BH Z,List.getElem?_replicate];split<;>rfl
 . rw[AW si,BJ Z];simp
theorem Nl(i:Nat)(q:List Rat)(x:Rat):ev (Ev i q) x=x^i*ev q x:=by
 induction i with
 |zero=>rw[show Ev 0 q=q from rfl];grind
 |succ i a=>
  rw[show Ev (i+1) q=0::Ev i q from rfl,ev,a];grind
def YA(z:List Rat)(i:Nat)(a:Rat)(q:List Rat):Nat->List Rat
 |0=>z
 |j+1=>(YA z i a q j).set (i+j) (cf (YA z i a q j) (i+j)+a*cf q j)
theorem Yp(z:List Rat)(i:Nat)(a:Rat)(q:List Rat)(j:Nat):(YA z i a q j).length=z.length:=by
 induction j with
 |zero=>rfl
 |succ j b=>rw[YA,Cy,b]
theorem Rq(z:List Rat)(i:Nat)(a:Rat)(q:List Rat)(j k:Nat)(h:i+j<=z.length):cf (YA z i a q j) k=cf z k+(if i<=k/\k<i+j then a*cf q (k-i)else 0):=by
 induction j with
 |zero=>rw[YA,BH Z];grind
 |succ j b=>
  have b:=b Z;rw[YA,XE _ _ _ _ (by rw[Yp];omega)];by_cases c:k=i+j
  . subst c;rw[BJ rfl,b,BH Z,BJ Z,show i+j-i=j from by omega];grind
  . rw[BH c,b];by_cases d:i<=k/\k<i+j
    . rw[BJ d,BJ Z]
    . rw[BH d,BH Z]
theorem Lf(z:List Rat)(i:Nat)(a:Rat)(q:List Rat)(k:Nat)(h:i+q.length<=z.length):cf (YA z i a q q.length) k=cf z k+a*cf (Ev i q) k:=by
 rw[Rq _ _ _ _ _ _ h,KR];by_cases b:i<=k
 . by_cases c:k<i+q.length
   . rw[BJ ⟨b,c⟩,BJ b]
   . rw[BH Z,BJ b,J6 (p:=q) Z];grind
 . rw[BH Z,BH b];grind
theorem Rr(z:List Rat)(i:Nat)(a:Rat)(q:List Rat)(x:Rat)(h:i+q.length<=z.length):ev (YA z i a q q.length) x=ev z x+a*(x^i*ev q x):=by
 have e:∀k,cf (YA z i a q q.length) k=cf (XC z (YS a (Ev i q))) k:=λk=>by
  rw[Lf _ _ _ _ _ h,Gl,Hx];grind
 rw[Ig e,XN,Xl,Nl];grind
def XD(p q:List Rat)(n:Nat):Nat->List Rat
 |0=>List.replicate n 0
 |i+1=>YA (XD p q n i) i (cf p i) q q.length
theorem Lg(p q:List Rat)(n i:Nat):(XD p q n i).length=n:=by
 induction i with
 |zero=>rw[XD,Au]
 |succ i a=>rw[XD,Yp,a]
theorem Nm(p q:List Rat)(n i k:Nat)(h:i=0\/i+q.length<=n+1):cf (XD p q n i) k=conv p q i k:=by
 induction i with
 |zero=>rw[XD,JS];rfl
 |succ i a=>
  rw[XD,Lf _ _ _ _ _ (by rw[Lg];omega),a Z,KR];show _=conv p q i k+_
  dsimp only;split<;>grind
def Jz(p q:List Rat)(n m:Nat):Nat->List Rat × List Rat
 |0=>(List.replicate m 0,p)
 |k+1=>
  let s:=Jz p q n m k
  let i:=m-(k+1)
  let c:=cf s.2 (i+n)/cf q n
  (s.1.set i c,YA s.2 i (-c) q q.length)
theorem YV(p q:List Rat)(n m k:Nat):(Jz p q n m k).1.length=m/\(Jz p q n m k).2.length=p.length:=by
 induction k with
 |zero=>exact⟨Au,rfl⟩
 |succ k a=>rw[Jz];exact⟨by rw[Cy];exact a.1,by rw[Yp];exact a.2⟩
theorem Rs(p:List Rat)(i:Nat)(c:Rat)(x:Rat)(d:i<p.length)(b:cf p i=0):ev (p.set i c) x=ev p x+c*x^i:=by
 have e:∀k,cf (p.set i c) k=cf (XC p (Ev i [c])) k:=λk=>by
  rw[XE _ _ _ _ d,Gl,KR];by_cases h:k=i
  . subst h;rw[BJ rfl,BJ (Aa _),b,A7,YK];grind
  . rw[BH h];by_cases a:i<=k
    . rw[BJ a,J6 (p:=[c]) si];grind
    . rw[BH a];grind
 rw[Ig e,XN,Nl];simp[ev];grind
theorem Nn(p q:List Rat)(n m:Nat)(hq:q.length=n+1)(hl:cf q n≠0)(v:m+n=p.length):∀k,k<=m->
 (∀x,ev p x=ev q x*ev (Jz p q n m k).1 x+ev (Jz p q n m k).2 x)/\(∀j,j<m-k->cf (Jz p q n m k).1 j=0)/\(∀j,m-k+n<=j->cf (Jz p q n m k).2 j=0):=by
 intro k;induction k with
 |zero=>
  intro _;refine⟨λx=>?_,λj _=>JS _ _,λj e=>J6 (by show p.length<=j;omega)⟩;rw[Jz];dsimp only;rw[Ie (JS m)];grind
 |succ k r=>
  intro u;obtain⟨f,b,g⟩:=r Z;obtain⟨l1,l2⟩:=YV p q n m k;rw[Jz];dsimp only;generalize hs:Jz p q n m k=s at *;obtain⟨i,o⟩:=ex (m-(k+1));rw[o];obtain⟨c,d⟩:=ex (cf s.2 (i+n)/cf q n);rw[d];have a:i+q.length<=s.2.length:=Z
  have t:c*cf q n=cf s.2 (i+n):=by rw[<-d];exact A4 hl
  refine⟨λx=>?_,λj e=>?_,λj e=>?_⟩
  . rw[Rs _ _ _ _ Z (b i Z),Rr _ _ _ _ _ a,f x];grind
  . rw[XE _ _ _ _ Z,BH Z];exact b j Z
  . rw[Lf _ _ _ _ _ a,KR,BJ Z];by_cases l:j=i+n
    . subst l;rw[show i+n-i=n from by omega];grind
    . rw[g j Z,J6 (p:=q) Z];grind
def Jt(p q:List Rat):List Rat:=Jd (Jz p q (q.length-1) (p.length-(q.length-1)) (p.length-(q.length-1))).1
def J5(p q:List Rat):List Rat:=Jd (Jz p q (q.length-1) (p.length-(q.length-1)) (p.length-(q.length-1))).2
theorem YW(p q:List Rat)(hq:Jd q=q)(a:q≠[]):(∀x,ev p x=ev q x*ev (Jt p q) x+ev (J5 p q) x)/\(J5 p q).length<q.length/\Jd (Jt p q)=Jt p q/\Jd (J5 p q)=J5 p q:=by
 have l1:0<q.length:=Aj.2 a;refine⟨λx=>?_,?_,Ya _,Ya _⟩
 . unfold Jt J5;rw[Xt,Xt];by_cases h:q.length-1<=p.length
   . exact(Nn p q (q.length-1) (p.length-(q.length-1)) Z (Jw hq a) Z _ (Aa _)).1 x
   . rw[show p.length-(q.length-1)=0 from by omega,Jz];dsimp only;rw[Ie (JS 0)];grind
 . unfold J5;refine Cf (Lb (n:=q.length-1) λj b=>?_) Z;by_cases h:q.length-1<=p.length
   . exact(Nn p q (q.length-1) (p.length-(q.length-1)) Z (Jw hq a) Z _ (Aa _)).2.2 j Z
   . rw[show p.length-(q.length-1)=0 from by omega,Jz];exact J6 (by dsimp only;omega)
def XZ(p q:List Rat):List Rat:=Jd (XC p q)
def JE(p q:List Rat):List Rat:=Jd (XC p (YS (-1) q))
def Jp(p q:List Rat):List Rat:=Jd (EX p q)
def Je(p:List Rat):List Rat:=Jd (Hb p)
theorem H7(p q:List Rat):Jd (XZ p q)=XZ p q:=Ya _
theorem Yj(p q:List Rat):Jd (JE p q)=JE p q:=Ya _
theorem Jy(p q:List Rat):Jd (Jp p q)=Jp p q:=Ya _
theorem JV(p:List Rat):Jd (Je p)=Je p:=Ya _
theorem Y6(p q:List Rat)(x:Rat):ev (XZ p q) x=ev p x+ev q x:=by unfold XZ;rw[Xt,XN]
theorem XO(p q:List Rat)(x:Rat):ev (JE p q) x=ev p x-ev q x:=by unfold JE;rw[Xt,XN,Xl];grind
theorem Jj(p q:List Rat)(x:Rat):ev (Jp p q) x=ev p x*ev q x:=by unfold Jp;rw[Xt,Lc]
theorem KS(p:List Rat)(x:Rat):ev (Je p) x=dv p x:=by unfold Je;rw[Xt,Rn]
theorem Rt(p q:List Rat)(i:Nat):cf (XZ p q) i=cf p i+cf q i:=by unfold XZ;rw[Yd,Gl]
theorem Lh(p q:List Rat)(i:Nat):cf (JE p q) i=cf p i-cf q i:=by unfold JE;rw[Yd,Gl,Hx];grind
theorem Ru(p q:List Rat):(XC p q).length=max p.length q.length:=by
 induction p generalizing q with
 |nil=>rw[XC];simp
 |cons c t a=>
  cases q with
  |nil=>rw[Ro];simp
  |cons d s=>rw[XC,Ao,a,Ao,Ao];omega
theorem Rv(p q:List Rat):(XZ p q).length<=max p.length q.length:=by
 have:=La (XC p q);rw[Ru]at this;exact this
theorem YU(hp:Jd p=p)(hq:Jd q=q)(h:∀x,ev p x=ev q x):p=q:=by rw[<-hp,<-hq];exact KQ h
theorem Rw(p q:List Rat):Je (Jp p q)=XZ (Jp (Je p) q) (Jp p (Je q)):=by
 refine YU (JV _) (H7 _ _) λx=>?_;rw[KS,Y6,Jj,Jj,KS,KS,<-Ri];exact Rb (λi=>by unfold Jp;rw[Yd]) x
