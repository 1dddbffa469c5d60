import Derived.Test.YtakpoihdghihmaaGreatDoorR00
set_option maxRecDepth 100000
set_option maxHeartbeats 16000000
namespace Go.Proofs.YtakpoihdghihmaaGreatDoor
section
theorem BC:type_of% @if_pos:=@if_pos
theorem BB:type_of% @if_neg:=@if_neg
def cf(p:List Rat)(i:Nat):Rat:=p[i]?.getD 0
variable{p q:List Rat}{i k n:Nat}{f:Nat->Rat}{B K L u v:Rat}
theorem YI(i:Nat):cf [] i=0:=by simp[cf]
theorem YR(c:Rat)(t:List Rat):cf (c::t) 0=c:=by simp[cf]
theorem J3(c:Rat)(t:List Rat)(i:Nat):cf (c::t) (i+1)=cf t i:=by simp[cf]
theorem Ye(h:p.length<=i):cf p i=0:=by simp[cf,List.getElem?_eq_none h]
theorem Sp(h:i<p.length):cf p i=p[i]:=by simp[cf,List.getElem?_eq_getElem h]
theorem XV(p:List Rat)(k:Nat)(c:Rat)(i:Nat)(a:k<p.length):cf (p.set k c) i=if i=k then c else cf p i:=by
 unfold cf;by_cases h:i=k
 . subst h;rw[BC rfl,A9 a];rfl
 . rw[BB h,AR λe=>h e.symm]
theorem J0(n:Nat)(i:Nat):cf (List.replicate n 0) i=0:=by
 unfold cf;rw[List.getElem?_replicate];split<;>rfl
theorem MX(n:Nat)(f:Nat->Rat)(i:Nat):cf ((List.range n).map f) i=if i<n then f i else 0:=by
 unfold cf;rw[Fa];by_cases h:i<n
 . rw[List.getElem?_range h,BC h];rfl
 . rw[AQ si,BB h];rfl
theorem MY(p:List Rat)(n i:Nat):cf (p.take n) i=if i<n then cf p i else 0:=by
 unfold cf;rw[C5];split<;>rfl
def Jd:List Rat->List Rat
 |[]=>[]
 |c::t=>match Jd t with
  |[]=>if c=0 then []else [c]
  |d::s=>c::d::s
theorem Yf(p:List Rat)(i:Nat):cf (Jd p) i=cf p i:=by
 induction p generalizing i with
 |nil=>rfl
 |cons c t b=>
  have a:=b;rw[Jd];split
  . rename_i h;rw[h]at a;cases i with
    |zero=>split<;>simp_all [cf]
    |succ i=>
     rw[J3,<-a i,YI];split
     . rfl
     . rw[J3,YI]
  . rename_i d s h;rw[<-h];cases i with
    |zero=>rfl
    |succ i=>rw[J3,J3,a]
theorem MZ(h:∀i,cf p i=0):Jd p=[]:=by
 induction p with
 |nil=>rfl
 |cons c t d=>
  have a:=d (λi=>by rw[<-J3 c t i];exact h (i+1));have b:c=0:=by rw[<-YR c t];exact h 0
  rw[Jd,a];show(if c=0 then []else [c])=[];rw[BC b]
theorem IF(h:∀i,cf p i=cf q i):Jd p=Jd q:=by
 induction p generalizing q with
 |nil=>rw[MZ (p:=q) λi=>by rw[<-h i,YI]];rfl
 |cons c t e=>
  cases q with
  |nil=>rw[MZ (p:=c::t) λi=>by rw[h i,YI]];rfl
  |cons d s=>
   have a:c=d:=by have:=h 0;rwa[YR,YR]at this
   have b:=e (q:=s) (λi=>by have:=h (i+1);rwa[J3,J3]at this);rw[Jd,Jd,a,b]
theorem J5(p:List Rat):Jd (Jd p)=Jd p:=IF (Yf p)
theorem YS(p:List Rat):(Jd p).length<=p.length:=by
 induction p with
 |nil=>exact Aa _
 |cons c t a=>
  rw[Jd];split
  . split<;>simp
  . rename_i d s h;rw[h]at a;simp only[Ah]at a ⊢;omega
theorem Jt(h:Jd p=p)(f:p≠[]):cf p (p.length-1)≠0:=by
 induction p with
 |nil=>exact absurd rfl f
 |cons c t i=>
  rw[Jd]at h;split at h
  . rename_i b;split at h
    . cases h
    . rename_i a;simp only[List.cons.injEq,true_and]at h;subst h;simpa[cf]using a
  . rename_i d s b;simp only[List.cons.injEq,true_and]at h;have a:Jd t=t:=by rw[b,h]
    have g:=i a (by rw[<-h];simp);have e:(c::t).length-1=(t.length-1)+1:=by rw[<-h];simp
    rw[e,J3];exact g
theorem Ot(h:p=[]\/cf p (p.length-1)≠0):Jd p=p:=by
 induction p with
 |nil=>rfl
 |cons c t a=>
  rcases h with h|h
  . cases h
  . cases t with
    |nil=>rw[Jd];show(if c=0 then []else [c])=[c];rw[BB (by simpa[cf]using h)]
    |cons d s=>
     have e:(c::d::s).length-1=((d::s).length-1)+1:=O
     rw[e,J3]at h;rw[Jd,a (Or.inr h)]
theorem Sr(d:n<=p.length)(a:n=0\/cf p (n-1)≠0)(c:∀j,n<=j->cf p j=0):Jd p=p.take n:=by
 have e:Jd p=Jd (p.take n):=IF λi=>by
  rw[MY];split
  . rfl
  . exact c i Y
 rw[e];refine Ot ?_;rcases a with a|a
 . left;rw[a];rfl
 . by_cases b:n=0
   . left;rw[b];rfl
   . right
     rw[Al,CK d,MY,BC Y];exact a
theorem Ma(h:∀j,n<=j->cf p j=0):(Jd p).length<=n:=by
 rcases A6 n (Jd p).length with a|a
 . have b:=Jt (J5 p) (by intro c;rw[c]at a;simp at a);rw[Yf]at b;exact absurd (h _ Y) b
 . exact a
def ev:List Rat->Rat->Rat
 |[],_=>0
 |c::t,x=>c+x*ev t x
theorem KO(h:∀i,cf p i=0)(x:Rat):ev p x=0:=by
 induction p with
 |nil=>rfl
 |cons c t d=>
  have a:=d (λi=>by rw[<-J3 c t i];exact h (i+1));have b:c=0:=by rw[<-YR c t];exact h 0
  rw[ev,a,b];grind
theorem KP(h:∀i,cf p i=cf q i)(x:Rat):ev p x=ev q x:=by
 induction p generalizing q with
 |nil=>rw[KO (p:=q) λi=>by rw[<-h i,YI]];rfl
 |cons c t e=>
  cases q with
  |nil=>rw[KO (p:=c::t) λi=>by rw[h i,YI]];rfl
  |cons d s=>
   have a:c=d:=by have:=h 0;rwa[YR,YR]at this
   have b:=e (q:=s) (λi=>by have:=h (i+1);rwa[J3,J3]at this);rw[ev,ev,a,b]
theorem XK(p:List Rat)(x:Rat):ev (Jd p) x=ev p x:=KP (Yf p) x
def dv:List Rat->Rat->Rat
 |[],_=>0
 |_::t,x=>ev t x+x*dv t x
theorem Ou(h:∀i,cf p i=0)(x:Rat):dv p x=0:=by
 induction p with
 |nil=>rfl
 |cons c t b=>
  have a:∀i,cf t i=0:=λi=>by rw[<-J3 c t i];exact h (i+1)
  rw[dv,b a,KO a];grind
theorem Ov(h:∀i,cf p i=cf q i)(x:Rat):dv p x=dv q x:=by
 induction p generalizing q with
 |nil=>rw[Ou (p:=q) λi=>by rw[<-h i,YI]];rfl
 |cons c t b=>
  cases q with
  |nil=>rw[Ou (p:=c::t) λi=>by rw[h i,YI]];rfl
  |cons d s=>
   have a:∀i,cf t i=cf s i:=λi=>by have:=h (i+1);rwa[J3,J3]at this
   rw[dv,dv,b a,KP a]
def Ga:List Rat->Rat->List Rat
 |[],_=>[]
 |_::t,a=>match t with
  |[]=>[]
  |d::s=>ev (d::s) a::Ga (d::s) a
theorem Ow(p:List Rat)(a:Rat):(Ga p a).length=p.length-1:=by
 induction p with
 |nil=>rfl
 |cons c t b=>
  cases t with
  |nil=>rfl
  |cons d s=>
   rw[Ga,Ah,b];simp
theorem Mb(p:List Rat)(a x:Rat):ev p x=ev p a+(x-a)*ev (Ga p a) x:=by
 induction p with
 |nil=>simp[ev,Ga];grind
 |cons c t b=>
  cases t with
  |nil=>simp[ev,Ga];grind
  |cons d s=>
   rw[Ga];generalize hq:d::s=q at *;rw[ev,ev,ev,b];grind
theorem Ss{m:Nat}(h:∀n:Nat,m<=n->ev p (n:Rat)=0)(x:Rat):ev p x=0:=by
 obtain⟨k,d⟩:=ex (p.length);induction k generalizing p m with
 |zero=>
  have:p=[]:=AD d;rw[this];rfl
 |succ k j=>
  have c:=h m (Aa _);have e:∀n:Nat,m+1<=n->ev (Ga p m) (n:Rat)=0:=λn o=>by
   have a:=Mb p (m:Rat) (n:Rat);rw[h n Y,c]at a;have f:((n:Rat)-(m:Rat))≠0:=by
    intro l;have g:(n:Rat)=(m:Rat):=by grind
    have:=Rat.natCast_inj.1 g;omega
   have i:((n:Rat)-(m:Rat))*ev (Ga p m) n=0:=by grind
   rcases AM.1 i with b|b
   . exact absurd b f
   . exact b
  have a:=j e (by rw[Ow,d];rfl);rw[Mb p (m:Rat) x,c,a];grind
theorem St(h:∀x,ev p x=0)(i:Nat):cf p i=0:=by
 induction p generalizing i with
 |nil=>rfl
 |cons c t l=>
  have b:c=0:=by have:=h 0;rw[ev]at this;grind
  have d:∀x,ev t x=0:=λx=>Ss (m:=1) (λn o=>by
   have e:=h (n:Rat);rw[ev,b]at e;have f:(n:Rat)≠0:=λg=>by
    have j:(n:Rat)=((0:Nat):Rat):=g;have:=Rat.natCast_inj.1 j;omega
   have k:(n:Rat)*ev t n=0:=by grind
   rcases AM.1 k with a|a
   . exact absurd a f
   . exact a) x
  cases i with
  |zero=>rw[YR];exact b
  |succ i=>rw[J3];exact l d i
def XS:List Rat->List Rat->List Rat
 |[],q=>q
 |p,[]=>p
 |c::t,d::s=>(c+d)::XS t s
def Y1(a:Rat)(p:List Rat):List Rat:=p.map λc=>c*a
def EZ:List Rat->List Rat->List Rat
 |[],_=>[]
 |c::t,q=>XS (Y1 c q) (0::EZ t q)
theorem Hj(p q:List Rat)(i:Nat):cf (XS p q) i=cf p i+cf q i:=by
 induction p generalizing q i with
 |nil=>rw[XS,YI];grind
 |cons c t a=>
  cases q with
  |nil=>
   rw[XS,YI]
   . grind
   . intro h;cases h
  |cons d s=>
   rw[XS];cases i with
   |zero=>simp[cf]
   |succ i=>rw[J3,J3,J3,a]
theorem Iq(a:Rat)(p:List Rat)(i:Nat):cf (Y1 a p) i=cf p i*a:=by
 unfold cf Y1;rw[Fa];cases p[i]? with
 |none=>simp
 |some c=>rfl
theorem Gb(p q:List Rat)(x:Rat):ev (XS p q) x=ev p x+ev q x:=by
 induction p generalizing q with
 |nil=>rw[XS,ev];grind
 |cons c t a=>
  cases q with
  |nil=>
   rw[XS]
   . rw[show ev [] x=0 from rfl];grind
   . intro h;cases h
  |cons d s=>rw[XS,ev,ev,ev,a];grind
theorem XD(a:Rat)(p:List Rat)(x:Rat):ev (Y1 a p) x=ev p x*a:=by
 induction p with
 |nil=>simp[Y1,ev]
 |cons c t b=>
  rw[show Y1 a (c::t)=(c*a)::Y1 a t from rfl,ev,ev,b];grind
theorem Mc(p q:List Rat)(x:Rat):ev (EZ p q) x=ev p x*ev q x:=by
 induction p with
 |nil=>rw[EZ,ev];grind
 |cons c t a=>rw[EZ,Gb,XD,ev,ev,a];grind
theorem Su(p q:List Rat)(x:Rat):dv (XS p q) x=dv p x+dv q x:=by
 induction p generalizing q with
 |nil=>rw[XS,dv];grind
 |cons c t a=>
  cases q with
  |nil=>
   rw[XS]
   . rw[show dv [] x=0 from rfl];grind
   . intro h;cases h
  |cons d s=>rw[XS,dv,dv,dv,a,Gb];grind
theorem Ox(a:Rat)(p:List Rat)(x:Rat):dv (Y1 a p) x=dv p x*a:=by
 induction p with
 |nil=>simp[Y1,dv]
 |cons c t b=>
  rw[show Y1 a (c::t)=(c*a)::Y1 a t from rfl,dv,dv,b,XD];grind
theorem Sv(p q:List Rat)(x:Rat):dv (EZ p q) x=dv p x*ev q x+ev p x*dv q x:=by
 induction p with
 |nil=>rw[EZ,dv,ev];grind
 |cons c t a=>rw[EZ,Su,Ox,dv,dv,ev,a,Mc];grind
theorem K5(h:∀x,ev p x=ev q x):Jd p=Jd q:=by
 have a:∀i,cf (XS p (Y1 (-1) q)) i=0:=St (λx=>by rw[Gb,XD,h x];grind);refine IF λi=>?_;have:=a i;rw[Hj,Iq]at this;grind
def Dj:Nat->(Nat->Rat)->Rat
 |0,_=>0
 |n+1,f=>Dj n f+f n
theorem Sw{g:Nat->Rat}(h:∀k,k<n->f k=g k):Dj n f=Dj n g:=by
 induction n with
 |zero=>rfl
 |succ n a=>rw[Dj,Dj,a λk b=>h k Y,h n Y]
theorem Md(h:∀k,k<n->f k=0):Dj n f=0:=by
 induction n with
 |zero=>rfl
 |succ n a=>rw[Dj,a λk b=>h k Y,h n Y];grind
theorem Sx(n:Nat)(f:Nat->Rat):Dj (n+1) f=f 0+Dj n (λk=>f (k+1)):=by
 induction n with
 |zero=>simp[Dj];grind
 |succ n a=>rw[Dj,a,Dj];grind
def conv(p q:List Rat)(n k:Nat):Rat:=Dj n λi=>if i<=k then cf p i*cf q (k-i)else 0
theorem Ir(p q:List Rat)(k:Nat):cf (EZ p q) k=conv p q p.length k:=by
 induction p generalizing k with
 |nil=>rfl
 |cons c t b=>
  rw[EZ,Hj,Iq,conv,Ah,Sx];rw[BC (AO _),YR,Fq];have e:cf (0::EZ t q) k=Dj t.length (λi=>if i+1<=k then cf (c::t) (i+1)*cf q (k-(i+1))else 0):=by
   cases k with
   |zero=>
    rw[YR,Md];intro i a;rw[BB Y]
   |succ k=>
    rw[J3,b,conv];refine Sw λi a=>?_;by_cases h:i<=k
    . rw[BC h,BC Y,J3,show k+1-(i+1)=k-i from by omega]
    . rw[BB h,BB Y]
  rw[e];grind
theorem Sy(p q:List Rat)(h:p.length<=n):conv p q n k=conv p q p.length k:=by
 induction n with
 |zero=>rw[show p.length=0 from by omega]
 |succ n b=>
  by_cases a:p.length=n+1
  . rw[a]
  . rw[<-b Y];show conv p q n k+_=_
    dsimp only;rw[Ye (show p.length<=n from by omega)];split<;>grind
theorem Sz(h:p.length+q.length<=k+1):cf (EZ p q) k=0:=by
 rw[Ir];refine Md λi a=>?_;split
 . rw[Ye (p:=q) Y];grind
 . rfl
theorem Me(p q:List Rat)(m n:Nat)(hp:p.length=m+1)(hq:q.length=n+1):cf (EZ p q) (m+n)=cf p m*cf q n:=by
 rw[Ir,hp,conv,Dj,BC Y,show m+n-m=n from by omega];rw[Md]
 . grind
 . intro i a;split
   . rw[Ye (p:=q) Y];grind
   . rfl
theorem Oy(hp:Jd p=p)(hq:Jd q=q)(d:p≠[])(e:q≠[]):(Jd (EZ p q)).length=p.length+q.length-1:=by
 have f:=Jt hp d;have g:=Jt hq e;have l1:0<p.length:=Ag.2 d;have l2:0<q.length:=Ag.2 e;have i:=Me p q (p.length-1) (q.length-1) Y Y;have b:cf (EZ p q) (p.length-1+(q.length-1))≠0:=by
  rw[i];intro c;rcases AM.1 c with a|a
  . exact f a
  . exact g a
 have c:(Jd (EZ p q)).length<=p.length+q.length-1:=Ma λj k=>Sz Y;rcases A6 (Jd (EZ p q)).length (p.length+q.length-1)with a|a
 . rw[<-Yf]at b;exact absurd (Ye Y) b
 . omega
def Hk(p:List Rat):List Rat:=(List.range (p.length-1)).map λi=>cf p (i+1)*((i+1:Nat):Rat)
theorem Is(p:List Rat)(i:Nat):cf (Hk p) i=cf p (i+1)*((i+1:Nat):Rat):=by
 unfold Hk;rw[MX];split
 . rfl
 . rw[Ye Y];grind
theorem S0(p:List Rat)(x:Rat):ev (Hk p) x=dv p x:=by
 induction p with
 |nil=>rfl
 |cons c t a=>
  have e:∀i,cf (Hk (c::t)) i=cf (XS t (0::Hk t)) i:=λi=>by
   rw[Is,Hj,J3];cases i with
   |zero=>rw[YR];grind
   |succ i=>rw[J3,Is];grind
  rw[KP e,Gb,ev,a,dv];grind
theorem TA(p:List Rat):XS p []=p:=by cases p<;>rfl
theorem TB{u v a b:List Rat}(hq:Jd q=q)(r:q≠[])(s:Jd u=u)(t:Jd a=a)(w:Jd v=v)(y:Jd b=b)(C:v.length<q.length)(D:b.length<q.length)
(h:∀x,ev q x*ev u x+ev v x=ev q x*ev a x+ev b x):u=a/\v=b:=by
 obtain⟨d,g⟩:=ex (Jd (XS u (Y1 (-1) a)));have k:Jd d=d:=by rw[<-g,J5]
 have e:∀x,ev d x=ev u x-ev a x:=λx=>by rw[<-g,XK,Gb,XD];grind
 have l:∀x,ev (EZ d q) x=ev (XS b (Y1 (-1) v)) x:=λx=>by
  rw[Mc,Gb,XD,e];have:=h x;grind
 have o:=K5 l;have z:(Jd (XS b (Y1 (-1) v))).length<q.length:=by
  refine Ch (Ma (n:=q.length-1) λj B=>?_) Y;rw[Hj,Iq,Ye Y,Ye Y];grind
 have i:d=[]:=by
  by_cases c:d=[]
  . exact c
  . have p:=Oy k hq c r;have A:0<d.length:=Ag.2 c;rw[o]at p;omega
 have m:∀x,ev u x=ev a x:=λx=>by
  have:=e x;rw[i,show ev [] x=0 from rfl]at this;grind
 have f:u=a:=by rw[<-s,<-t];exact K5 m
 refine⟨f,?_⟩;rw[<-w,<-y];exact K5 λx=>by
  have:=h x;rw[f]at this;grind
def FV(i:Nat)(q:List Rat):List Rat:=List.replicate i 0++q
theorem K6(i:Nat)(q:List Rat)(k:Nat):cf (FV i q) k=if i<=k then cf q (k-i)else 0:=by
 unfold cf FV;by_cases h:k<i
 . rw[AV (by simpa using h),BB Y,List.getElem?_replicate];split<;>rfl
 . rw[AE si,BC Y];simp
theorem Oz(i:Nat)(q:List Rat)(x:Rat):ev (FV i q) x=x^i*ev q x:=by
 induction i with
 |zero=>rw[show FV 0 q=q from rfl];grind
 |succ i a=>
  rw[show FV (i+1) q=0::FV i q from rfl,ev,a];grind
def YK(z:List Rat)(i:Nat)(a:Rat)(q:List Rat):Nat->List Rat
 |0=>z
 |j+1=>(YK z i a q j).set (i+j) (cf (YK z i a q j) (i+j)+a*cf q j)
theorem Yz(z:List Rat)(i:Nat)(a:Rat)(q:List Rat)(j:Nat):(YK z i a q j).length=z.length:=by
 induction j with
 |zero=>rfl
 |succ j b=>rw[YK,CJ,b]
theorem TC(z:List Rat)(i:Nat)(a:Rat)(q:List Rat)(j k:Nat)(h:i+j<=z.length):cf (YK z i a q j) k=cf z k+(if i<=k/\k<i+j then a*cf q (k-i)else 0):=by
 induction j with
 |zero=>rw[YK,BB Y];grind
 |succ j b=>
  have b:=b Y;rw[YK,XV _ _ _ _ (by rw[Yz];omega)];by_cases c:k=i+j
  . subst c;rw[BC rfl,b,BB Y,BC Y,show i+j-i=j from by omega];grind
  . rw[BB c,b];by_cases d:i<=k/\k<i+j
    . rw[BC d,BC Y]
    . rw[BB d,BB Y]
theorem Mf(z:List Rat)(i:Nat)(a:Rat)(q:List Rat)(k:Nat)(h:i+q.length<=z.length):cf (YK z i a q q.length) k=cf z k+a*cf (FV i q) k:=by
 rw[TC _ _ _ _ _ _ h,K6];by_cases b:i<=k
 . by_cases c:k<i+q.length
   . rw[BC ⟨b,c⟩,BC b]
   . rw[BB Y,BC b,Ye (p:=q) Y];grind
 . rw[BB Y,BB b];grind
theorem TD(z:List Rat)(i:Nat)(a:Rat)(q:List Rat)(x:Rat)(h:i+q.length<=z.length):ev (YK z i a q q.length) x=ev z x+a*(x^i*ev q x):=by
 have e:∀k,cf (YK z i a q q.length) k=cf (XS z (Y1 a (FV i q))) k:=λk=>by
  rw[Mf _ _ _ _ _ h,Hj,Iq];grind
 rw[KP e,Gb,XD,Oz];grind
def XU(p q:List Rat)(n:Nat):Nat->List Rat
 |0=>List.replicate n 0
 |i+1=>YK (XU p q n i) i (cf p i) q q.length
theorem Mg(p q:List Rat)(n i:Nat):(XU p q n i).length=n:=by
 induction i with
 |zero=>rw[XU,AA]
 |succ i a=>rw[XU,Yz,a]
theorem O0(p q:List Rat)(n i k:Nat)(h:i=0\/i+q.length<=n+1):cf (XU p q n i) k=conv p q i k:=by
 induction i with
 |zero=>rw[XU,J0];rfl
 |succ i a=>
  rw[XU,Mf _ _ _ _ _ (by rw[Mg];omega),a Y,K6];show _=conv p q i k+_
  dsimp only;split<;>grind
def JF(p q:List Rat)(n m:Nat):Nat->List Rat × List Rat
 |0=>(List.replicate m 0,p)
 |k+1=>
  let s:=JF p q n m k
  let i:=m-(k+1)
  let c:=cf s.2 (i+n)/cf q n
  (s.1.set i c,YK s.2 i (-c) q q.length)
theorem YT(p q:List Rat)(n m k:Nat):(JF p q n m k).1.length=m/\(JF p q n m k).2.length=p.length:=by
 induction k with
 |zero=>exact⟨AA,rfl⟩
 |succ k a=>rw[JF];exact⟨by rw[CJ];exact a.1,by rw[Yz];exact a.2⟩
theorem TE(p:List Rat)(i:Nat)(c:Rat)(x:Rat)(d:i<p.length)(b:cf p i=0):ev (p.set i c) x=ev p x+c*x^i:=by
 have e:∀k,cf (p.set i c) k=cf (XS p (FV i [c])) k:=λk=>by
  rw[XV _ _ _ _ d,Hj,K6];by_cases h:k=i
  . subst h;rw[BC rfl,BC (Aa _),b,Cr,YR];grind
  . rw[BB h];by_cases a:i<=k
    . rw[BC a,Ye (p:=[c]) si];grind
    . rw[BB a];grind
 rw[KP e,Gb,Oz];simp[ev];grind
theorem O1(p q:List Rat)(n m:Nat)(hq:q.length=n+1)(hl:cf q n≠0)(v:m+n=p.length):∀k,k<=m->
 (∀x,ev p x=ev q x*ev (JF p q n m k).1 x+ev (JF p q n m k).2 x)/\(∀j,j<m-k->cf (JF p q n m k).1 j=0)/\(∀j,m-k+n<=j->cf (JF p q n m k).2 j=0):=by
 intro k;induction k with
 |zero=>
  intro _;refine⟨λx=>?_,λj _=>J0 _ _,λj e=>Ye (by show p.length<=j;omega)⟩;rw[JF];dsimp only;rw[KO (J0 m)];grind
 |succ k r=>
  intro u;obtain⟨f,b,g⟩:=r Y;obtain⟨l1,l2⟩:=YT p q n m k;rw[JF];dsimp only;generalize w:JF p q n m k=s at *;obtain⟨i,o⟩:=ex (m-(k+1));rw[o];obtain⟨c,d⟩:=ex (cf s.2 (i+n)/cf q n);rw[d];have a:i+q.length<=s.2.length:=Y
  have t:c*cf q n=cf s.2 (i+n):=by rw[<-d];exact Ap hl
  refine⟨λx=>?_,λj e=>?_,λj e=>?_⟩
  . rw[TE _ _ _ _ Y (b i Y),TD _ _ _ _ _ a,f x];grind
  . rw[XV _ _ _ _ Y,BB Y];exact b j Y
  . rw[Mf _ _ _ _ _ a,K6,BC Y];by_cases l:j=i+n
    . subst l;rw[show i+n-i=n from by omega];grind
    . rw[g j Y,Ye (p:=q) Y];grind
def Jp(p q:List Rat):List Rat:=Jd (JF p q (q.length-1) (p.length-(q.length-1)) (p.length-(q.length-1))).1
def JM(p q:List Rat):List Rat:=Jd (JF p q (q.length-1) (p.length-(q.length-1)) (p.length-(q.length-1))).2
theorem YU(p q:List Rat)(hq:Jd q=q)(a:q≠[]):(∀x,ev p x=ev q x*ev (Jp p q) x+ev (JM p q) x)/\(JM p q).length<q.length/\Jd (Jp p q)=Jp p q/\Jd (JM p q)=JM p q:=by
 have l1:0<q.length:=Ag.2 a;refine⟨λx=>?_,?_,J5 _,J5 _⟩
 . unfold Jp JM;rw[XK,XK];by_cases h:q.length-1<=p.length
   . exact(O1 p q (q.length-1) (p.length-(q.length-1)) Y (Jt hq a) Y _ (Aa _)).1 x
   . rw[show p.length-(q.length-1)=0 from by omega,JF];dsimp only;rw[KO (J0 0)];grind
 . unfold JM;refine Ch (Ma (n:=q.length-1) λj b=>?_) Y;by_cases h:q.length-1<=p.length
   . exact(O1 p q (q.length-1) (p.length-(q.length-1)) Y (Jt hq a) Y _ (Aa _)).2.2 j Y
   . rw[show p.length-(q.length-1)=0 from by omega,JF];exact Ye (by dsimp only;omega)
def XM(p q:List Rat):List Rat:=Jd (XS p q)
def JD(p q:List Rat):List Rat:=Jd (XS p (Y1 (-1) q))
def Js(p q:List Rat):List Rat:=Jd (EZ p q)
def Jb(p:List Rat):List Rat:=Jd (Hk p)
theorem It(p q:List Rat):Jd (XM p q)=XM p q:=J5 _
theorem Yi(p q:List Rat):Jd (JD p q)=JD p q:=J5 _
theorem J2(p q:List Rat):Jd (Js p q)=Js p q:=J5 _
theorem Jr(p:List Rat):Jd (Jb p)=Jb p:=J5 _
theorem YL(p q:List Rat)(x:Rat):ev (XM p q) x=ev p x+ev q x:=by unfold XM;rw[XK,Gb]
theorem Xa(p q:List Rat)(x:Rat):ev (JD p q) x=ev p x-ev q x:=by unfold JD;rw[XK,Gb,XD];grind
theorem Jg(p q:List Rat)(x:Rat):ev (Js p q) x=ev p x*ev q x:=by unfold Js;rw[XK,Mc]
theorem Xk(p:List Rat)(x:Rat):ev (Jb p) x=dv p x:=by unfold Jb;rw[XK,S0]
theorem TF(p q:List Rat)(i:Nat):cf (XM p q) i=cf p i+cf q i:=by unfold XM;rw[Yf,Hj]
theorem Mh(p q:List Rat)(i:Nat):cf (JD p q) i=cf p i-cf q i:=by unfold JD;rw[Yf,Hj,Iq];grind
theorem TG(p q:List Rat):(XS p q).length=max p.length q.length:=by
 induction p generalizing q with
 |nil=>rw[XS];simp
 |cons c t a=>
  cases q with
  |nil=>rw[TA];simp
  |cons d s=>rw[XS,Ah,a,Ah,Ah];omega
theorem TH(p q:List Rat):(XM p q).length<=max p.length q.length:=by
 have:=YS (XS p q);rw[TG]at this;exact this
theorem Xt(hp:Jd p=p)(hq:Jd q=q)(h:∀x,ev p x=ev q x):p=q:=by rw[<-hp,<-hq];exact K5 h
theorem TI(p q:List Rat):Jb (Js p q)=XM (Js (Jb p) q) (Js p (Jb q)):=by
 refine Xt (Jr _) (It _ _) λx=>?_;rw[Xk,YL,Jg,Jg,Xk,Xk,<-Sv];exact Ov (λi=>by unfold Js;rw[Yf]) x
theorem J9(a b:Rat):a<=b\/b<=a:=Rat.le_total
theorem YA{a b:Rat}(c:0<a)(d:0<b):0<a/b:=by
 have e:a/b*b=a:=Ap (by grind);rcases J9 (a/b) 0 with h|h
 . have:=Rat.mul_nonneg (a:=-(a/b)) (b:=b) (by grind) (by grind);grind
 . rcases Rat.le_iff_lt_or_eq.1 h with h|h
   . exact h
   . rw[<-h]at e;grind
theorem TJ{U V:Rat}(a:-U<=u)(b:u<=U)(c:-V<=v)(d:v<=V):-(U*V)<=u*v/\u*v<=U*V:=by
 have e:=Rat.mul_nonneg (a:=U-u) (b:=V+v) (by grind) (by grind);have f:=Rat.mul_nonneg (a:=U+u) (b:=V-v) (by grind) (by grind);have g:=Rat.mul_nonneg (a:=U-u) (b:=V-v) (by grind) (by grind);have i:=Rat.mul_nonneg (a:=U+u) (b:=V+v) (by grind) (by grind);constructor<;>grind
def Wi(K u:Rat):Prop:=-K<=u/\u<=K
theorem Wi.mul(h:Wi K u)(a:Wi L v):Wi (K*L) (u*v):=TJ h.1 h.2 a.1 a.2
theorem Wi.add(h:Wi K u)(a:Wi L v):Wi (K+L) (u+v):=by have:=h.1;have:=h.2;have:=a.1;have:=a.2;constructor<;>grind
theorem Wi.mono(h:Wi K u)(hl:K<=L):Wi L u:=by have:=h.1;have:=h.2;constructor<;>grind
theorem Hl(c:Rat)(p:List Rat)(x:Rat):ev (c::p) x=c+x*ev p x:=rfl
theorem IG(c:Rat):∃K,0<K/\Wi K c:=by
 rcases J9 0 c with h|h
 . exact⟨c+1,by grind,by constructor<;>grind⟩
 . exact⟨-c+1,by grind,by constructor<;>grind⟩
theorem Xr(p:List Rat)(b:0<=B):∃K,0<K/\∀x,Wi B x->Wi K (ev p x):=by
 induction p with
 |nil=>exact⟨1,DF,λx _=>⟨by simp[ev];grind,by simp[ev];grind⟩⟩
 |cons c p f=>
  obtain⟨K,d,h⟩:=f;obtain⟨C,g,e⟩:=IG c;have:=Rat.mul_nonneg b (Rat.le_of_lt d);exact⟨C+B*K,by grind,λx a=>e.add (a.mul (h x a))⟩
theorem TK(p:List Rat)(a:0<=B):∃K,0<K/\∀x y,Wi B x->Wi B y->x<=y->Wi (K*(y-x)) (ev p x-ev p y):=by
 induction p with
 |nil=>exact⟨1,DF,λx y _ _ d=>⟨by simp[ev];grind,by simp[ev];grind⟩⟩
 |cons c p l=>
  obtain⟨K,j,h⟩:=l;obtain⟨C,m,k⟩:=Xr p a;refine⟨C+B*K+1,by have:=Rat.mul_nonneg a (Rat.le_of_lt j);grind,λx y b f d=>?_⟩;have g:Wi (y-x) (x-y):=⟨by grind,by grind⟩;have i:=(g.mul (k x b)).add (f.mul (h x y b f d));have e:ev (c::p) x-ev (c::p) y=(x-y)*ev p x+y*(ev p x-ev p y):=by rw[Hl,Hl];grind
  rw[e];refine i.mono ?_;grind
def Sh(B:Rat)(P:Rat->Rat->Prop):Prop:=∃d,0<d/\∀x y,Wi B x->Wi B y->x<=y->y-x<=d->P x y
section
variable {B:Rat} {P Q:Rat->Rat->Prop}
theorem Sh.and(h:Sh B P)(f:Sh B Q):Sh B λx y=>P x y/\Q x y:=by
 obtain⟨d,d0,h⟩:=h;obtain⟨e,g,f⟩:=f;rcases J9 d e with i|i
 . exact⟨d,d0,λx y a b c l=>⟨h x y a b c l,f x y a b c (by grind)⟩⟩
 . exact⟨e,g,λx y a b c l=>⟨h x y a b c (by grind),f x y a b c l⟩⟩
theorem Sh.mono(h:Sh B P)(e:∀x y,Wi B x->Wi B y->x<=y->P x y->Q x y):Sh B Q:=by
 obtain⟨d,d0,h⟩:=h;exact⟨d,d0,λx y a b c l=>e x y a b c (h x y a b c l)⟩
theorem Sh.all(h:∀x y,Wi B x->Wi B y->x<=y->P x y):Sh B P:=⟨1,DF,λx y a b c _=>h x y a b c⟩
end
def DU(p:List Rat)(x y:Rat):Prop:=0<ev p x*ev p y
theorem Gc(p:List Rat){B e:Rat}(n:0<=B)(o:0<e):Sh B λx y=>¬DU p x y->Wi e (ev p x)/\Wi e (ev p y):=by
 obtain⟨K,j,h⟩:=TK p n;refine⟨e/K,YA o j,λx y a b c l q=>?_⟩;have k:=h x y a b c;have m:K*(y-x)<=e:=by
  have:=Rat.mul_le_mul_of_nonneg_left l (Rat.le_of_lt j);have r:K*(e/K)=e:=by rw[Ck,Ap (by grind)]
  grind
 have i:=k.mono m;have u:ev p x*ev p y<=0:=Rat.not_lt.1 q;have s:=i.1;have t:=i.2;rcases J9 0 (ev p x)with f|f<;>rcases J9 0 (ev p y)with g|g
 . rcases Rat.le_iff_lt_or_eq.1 f with d|d
   . rcases Rat.le_iff_lt_or_eq.1 g with q2|q2
     . have:=Rat.mul_pos d q2;grind
     . constructor<;>constructor<;>grind
   . constructor<;>constructor<;>grind
 . constructor<;>constructor<;>grind
 . constructor<;>constructor<;>grind
 . rcases Rat.le_iff_lt_or_eq.1 f with d|d
   . rcases Rat.le_iff_lt_or_eq.1 g with q2|q2
     . have:=Rat.mul_pos (a:=- ev p x) (b:=- ev p y) (by grind) (by grind);grind
     . constructor<;>constructor<;>grind
   . constructor<;>constructor<;>grind
end
section
def YB:Rat->List Rat->Nat
 |_,[]=>0
 |a,b::l=>if b=0 then YB a l else(if a*b<0 then 1 else 0)+YB b l
def DO(l:List Rat):Nat:=YB 0 l
def JQ(l:List (List Rat))(x:Rat):List Rat:=l.map λp=>ev p x
variable{a b:Rat}
theorem JK(p:List Rat)(l:List (List Rat))(x:Rat):JQ (p::l) x=ev p x::JQ l x:=rfl
theorem TL(h:a<0)(c:0<=b):a*b<=0:=by
 have:=Rat.mul_nonneg (a:=-a) (b:=b) (by grind) c;grind
theorem O2(h:a<0)(c:0<=b)(d:0<a*b):False:=by have:=TL h c;grind
theorem KQ{c d:Rat}(h:0<a*c)(j:0<b*d):a*b<0↔c*d<0:=by
 have g:0<(a*b)*(c*d):=by have:=Rat.mul_pos h j;grind
 constructor
 . intro i;rcases J9 0 (c*d)with e|e
   . exact(O2 i e g).elim
   . rcases Rat.le_iff_lt_or_eq.1 e with f|f
     . exact f
     . rw[f]at g;grind
 . intro i;rcases J9 0 (a*b)with e|e
   . exact(O2 i e (by rw[Ck];exact g)).elim
   . rcases Rat.le_iff_lt_or_eq.1 e with f|f
     . exact f
     . rw[f]at g;grind
theorem Jv(h:0<a*b):a≠0/\b≠0:=⟨λe=>by rw[e]at h;grind,λe=>by rw[e]at h;grind⟩
theorem TM(h:a*b<0):a≠0/\b≠0:=⟨λe=>by rw[e]at h;grind,λe=>by rw[e]at h;grind⟩
theorem Yd(h:b≠0)(l:List Rat):YB a (b::l)=(if a*b<0 then 1 else 0)+YB b l:=by
 rw[YB,BB h]
theorem O3{g h:Rat}(i:a*h<0)(l:List Rat):YB a (g::h::l)=1+YB h l:=by
 obtain⟨m,f⟩:=TM i;by_cases d:g=0
 . rw[YB,BC d,Yd f,BC i]
 . rw[Yd d,Yd f];have j:0<g*g:=by
    rcases J9 0 g with e|e
    . rcases Rat.le_iff_lt_or_eq.1 e with c|c
      . exact Rat.mul_pos c c
      . exact absurd c.symm d
    . rcases Rat.le_iff_lt_or_eq.1 e with c|c
      . have:=Rat.mul_pos (a:=-g) (b:=-g) (by grind) (by grind);grind
      . exact absurd c d
   have k:(a*g)*(g*h)<0:=by
    have:=Rat.mul_pos (a:=-(a*h)) (b:=g*g) (by grind) j;grind
   by_cases p:a*g<0
   . have:¬g*h<0:=λq=>by
      have:=Rat.mul_pos (a:=-(a*g)) (b:=-(g*h)) (by grind) (by grind);grind
     rw[BC p,BB this];omega
   . have:g*h<0:=by
      rcases J9 0 (g*h)with q|q
      . have:=Rat.mul_nonneg (a:=a*g) (b:=g*h) (Rat.not_lt.1 p) q;grind
      . rcases Rat.le_iff_lt_or_eq.1 q with q|q
        . exact q
        . rw[q]at k;grind
     rw[BB p,BC this];omega
inductive Gd(x y:Rat):List (List Rat)->Prop
 |one {f:List Rat}:DU f x y->Gd x y [f]
 |two {f g:List Rat}:DU g x y->Gd x y [f,g]
 |more {f g h:List Rat} {l:List (List Rat)}:(DU f x y\/DU g x y)->(¬DU g x y->ev f x*ev h x<0/\ev f y*ev h y<0)->Gd x y (g::h::l)->Gd x y (f::g::h::l)
section
variable {x y:Rat}
theorem Gd.adj{f g:List Rat}{l:List (List Rat)}(h:Gd x y (f::g::l)):DU f x y\/DU g x y:=by
 cases h with
 |two h=>exact Or.inr h
 |more h _ _=>exact h
theorem Gd.tail{f g:List Rat}{l:List (List Rat)}(h:Gd x y (f::g::l)):Gd x y (g::l):=by
 cases h with
 |two h=>exact Gd.one h
 |more _ _ h=>exact h
theorem Gd.same:∀(n:Nat) (l:List (List Rat)) (f:List Rat),l.length<=n->Gd x y (f::l)->DU f x y->YB (ev f x) (JQ l x)=YB (ev f y) (JQ l y):=by
 intro n;induction n with
 |zero=>
  intro l f hl _ _;have:l=[]:=Az.1 Y;subst this;rfl
 |succ n d=>
  intro l f hl a e;match l,hl,a with
  |[],_,_=>rfl
  |g::l,hl,a=>
   by_cases b:DU g x y
   . obtain⟨j,k⟩:=Jv b;rw[JK,JK,Yd j,Yd k,d l g (by simp at hl;omega) a.tail b];have:=KQ e b;by_cases p:ev f x*ev g x<0
     . rw[BC p,BC (this.1 p)]
     . rw[BB p,BB λq=>p (this.2 q)]
   . match l,hl,a with
     |[],_,a=>cases a with|two h=>exact absurd h b
     |h::l,hl,a=>
      have i:DU h x y:=(a.tail.adj).resolve_left b;have c:ev f x*ev h x<0/\ev f y*ev h y<0:=by
       cases a with|more _ c _=>exact c b
      rw[JK,JK,JK,JK,O3 c.1,O3 c.2,d l h (by simp at hl;omega) a.tail.tail i]
variable{a:Rat}
theorem IH(h:a≠0)(l:List Rat):DO (a::l)=YB a l:=by
 unfold DO;rw[Yd h,A2,BB DF];omega
theorem II{b:Rat}(h:b≠0)(l:List Rat):DO (a::b::l)=(if a*b<0 then 1 else 0)+YB b l:=by
 by_cases c:a=0
 . rw[DO,YB,BC c,c,A2,Yd h,A2]
 . rw[IH c,Yd h]
theorem Gd.stay{f:List Rat}{l:List (List Rat)}(h:Gd x y (f::l))(a:DU f x y):DO (JQ (f::l) x)=DO (JQ (f::l) y):=by
 obtain⟨b,c⟩:=Jv a;rw[JK,JK,IH b,IH c];exact h.same _ l f (Aa _) a
theorem Gd.both{f g:List Rat}{l m:List (List Rat)}(h:Gd x y (f::l))(c:Gd x y (g::m)){k:Rat}(B:k≠0)(w:∀x,ev f x=k*ev g x)
(v:¬DU g x y->∀f1 l1 d o,l=f1::l1->m=d::o->0<k*ev f1 x*ev d x/\0<k*ev f1 y*ev d y):
 DO (JQ (f::l) x)+DO (JQ (g::m) y)=DO (JQ (f::l) y)+DO (JQ (g::m) x):=by
 have H:0<k*k:=by
  rcases J9 0 k with i|i
  . rcases Rat.le_iff_lt_or_eq.1 i with c|c
    . exact Rat.mul_pos c c
    . exact absurd c.symm B
  . rcases Rat.le_iff_lt_or_eq.1 i with c|c
    . have:=Rat.mul_pos (a:=-k) (b:=-k) (by grind) (by grind);grind
    . exact absurd c B
 have A:ev f x*ev f y=(k*k)*(ev g x*ev g y):=by rw[w,w];grind
 by_cases j:DU g x y
 . have n:DU f x y:=by unfold DU at *;rw[A];exact Rat.mul_pos H j
   have:=h.stay n;have:=c.stay j;omega
 . have n:¬DU f x y:=λq=>j (by
    unfold DU at *;rw[A]at q;rcases J9 (ev g x*ev g y) 0 with r|r
    . have:=Rat.mul_nonneg (a:=k*k) (b:=-(ev g x*ev g y)) (by grind) (by grind);grind
    . rcases Rat.le_iff_lt_or_eq.1 r with r|r
      . exact r
      . rw[<-r]at q;grind)
   match l,m,h,c,v j with
   |[],_,h,_,_=>cases h with|one h=>exact absurd h n
   |_::_,[],_,c,_=>cases c with|one h=>exact absurd h j
   |f1::l1,d::o,h,c,v=>
    obtain⟨N,P⟩:=v f1 l1 d o rfl rfl;have C:=(h.adj).resolve_left n;have D:=(c.adj).resolve_left j;obtain⟨I,K⟩:=Jv C;obtain⟨L,M⟩:=Jv D;rw[JK,JK,JK,JK,JK,JK,JK,JK,II I,II K,II L,II M,h.tail.same _ l1 f1 (Aa _) C,c.tail.same _ o d (Aa _) D];have t:∀z,0<k*ev f1 z*ev d z->(ev f z*ev f1 z<0↔ev g z*ev d z<0):=λz G=>by
     have E:ev f z*ev f1 z=ev g z*(k*ev f1 z):=by rw[w];grind
     rw[E];by_cases u:ev g z=0
     . rw[u];grind
     . have F:0<ev g z*ev g z:=by
        rcases J9 0 (ev g z)with i|i
        . rcases Rat.le_iff_lt_or_eq.1 i with c|c
          . exact Rat.mul_pos c c
          . exact absurd c.symm u
        . rcases Rat.le_iff_lt_or_eq.1 i with c|c
          . have:=Rat.mul_pos (a:=-(ev g z)) (b:=-(ev g z)) (by grind) (by grind);grind
          . exact absurd c u
       exact KQ F G
    have p:=t x N;have s:=t y P;by_cases e:ev g x*ev d x<0<;>by_cases q2:ev g y*ev d y<0
    . rw[BC e,BC q2,BC (p.2 e),BC (s.2 q2)]
    . rw[BC e,BB q2,BC (p.2 e),BB λq=>q2 (s.1 q)];omega
    . rw[BB e,BC q2,BB λq=>e (p.1 q),BC (s.2 q2)];omega
    . rw[BB e,BB q2,BB λq=>e (p.1 q),BB λq=>q2 (s.1 q)]
end
end
inductive StC:List (List Rat)->Prop
 |one {f:List Rat} {c:Rat}:c≠0->(∀x,ev f x=c)->StC [f]
 |two {f g:List Rat} {c:Rat}:c≠0->(∀x,ev g x=c)->StC [f,g]
 |more {f g h q:List Rat} {l:List (List Rat)} {a c:Rat}:0<a->0<c->(∀x,a*ev f x=ev q x*ev g x-c*ev h x)->StC (g::h::l)->StC (f::g::h::l)
variable{p:List Rat}{B U V a e i u v w y:Rat}
theorem Ge:(0:Rat)<1/4:=by grind
theorem Jo(c x:Rat):ev [c] x=c:=by simp[ev];grind
theorem Ys{f:List Rat}{c:Rat}(g:c≠0)(h:∀x,ev f x=c)(x y:Rat):DU f x y:=by
 unfold DU;rw[h,h];rcases J9 0 c with e|e
 . rcases Rat.le_iff_lt_or_eq.1 e with d|d
   . exact Rat.mul_pos d d
   . exact absurd d.symm g
 . rcases Rat.le_iff_lt_or_eq.1 e with d|d
   . have:=Rat.mul_pos (a:=-c) (b:=-c) (by grind) (by grind);grind
   . exact absurd d g
theorem StC.cop{f g:List Rat}{l:List (List Rat)}(h:StC (f::g::l)):∃u v:List Rat,∀x,ev u x*ev f x+ev v x*ev g x=1:=by
 match l,h with
 |[],h=>
  cases h with
  |two d b=>
   rename_i c;refine⟨[],[1/c],λx=>?_⟩;rw[b,Jo];have:1/c*c=1:=Ap d;simp[ev];grind
 |h::l,n=>
  cases n with
  |more s d b o=>
   rename_i q a c;obtain⟨u,v,p⟩:=StC.cop o;have e:c≠0:=by grind
   refine⟨Js [-(a/c)] v,XM u (Js [1/c] (Js v q)),λx=>?_⟩;rw[Jg,YL,Jg,Jg,Jo,Jo];have i:=p x;have r:=b x;have j:1/c*c=1:=Ap e;have k:a/c=1/c*a:=by rw[Fh,Fh,Co,Ck]
   rw[k];have m:ev h x=1/c*(ev q x*ev g x-a*ev f x):=by
    have:ev h x=1/c*(c*ev h x):=by rw[<-Rat.mul_assoc,j,Co]
    rw[this];congr 1;grind
   rw[m]at i;grind
termination_by l.length
theorem K7{f g:Rat}(h:u*f+v*g=1)(b:Wi U u)(a:Wi e f)(c:U*e<=1/4):3/4<=v*g:=by
 have:=(b.mul a).2;grind
theorem StC.gd{l:List (List Rat)}(h:StC l)(j:0<=B):Sh B λx y=>Gd x y l:=by
 induction h with
 |one n m=>exact Sh.all λx y _ _ _=>Gd.one (Ys n m x y)
 |two n m=>exact Sh.all λx y _ _ _=>Gd.two (Ys n m x y)
 |more ha n m k A=>
  rename_i f g h q l a c;obtain⟨u,v,ai⟩:=(StC.more ha n m k).cop;obtain⟨u2,D,aj⟩:=k.cop;obtain⟨U1,P,ad⟩:=Xr u j;obtain⟨U2,R,ae⟩:=Xr v j;obtain⟨U3,S,af⟩:=Xr u2 j;obtain⟨i,C,ah⟩:=Xr D j;obtain⟨Q,T,X⟩:=Xr q j;have d:∀ {r K:Rat},0<r->0<K->K*(r/K)=r:=λ_ hK=>by rw[Ck,Ap (by grind)]
  have E:=(((Gc f j (YA Ge P)).and (Gc g j (YA Ge R))).and ((Gc g j (YA Ge S)).and (Gc g j (YA (YA (show(0:Rat)<c/2 by grind) C) T)))).and A;refine E.mono λx y t hy ak ⟨⟨⟨tf,tg⟩,V,W⟩,A⟩=>?_;refine Gd.more ?_ (λk=>?_) A
  . by_cases U:DU f x y
    . exact Or.inl U
    . by_cases sg:DU g x y
      . exact Or.inr sg
      . exfalso
        have G:=K7 (ai x) (ad x t) (tf U).1 (by rw[d Ge P];exact Rat.le_refl);have o:=((ae x t).mul (tg sg).1).2;rw[d Ge R]at o;grind
  . have N:∀z,Wi B z->Wi (1/4/U3) (ev g z)->Wi (c/2/i/Q) (ev g z)->ev f z*ev h z<0:=λz w w1 w2=>by
     have G:=K7 (aj z) (af z w) w1 (by rw[d Ge S];exact Rat.le_refl);have o:=(X z w).mul w2;rw[d (YA (show(0:Rat)<c/2 by grind) C) T]at o;have H:=m z;have I:=ah z w;have L:Wi (c/2) (i*(ev q z*ev g z)):=by
      have:=(show Wi i i from⟨by grind,by grind⟩).mul o;rwa[d (show(0:Rat)<c/2 by grind) C]at this
     have F:ev h z≠0:=λe=>by rw[e]at G;grind
     rcases J9 0 (ev h z)with s|s
     . have s:0<ev h z:=by
        rcases Rat.le_iff_lt_or_eq.1 s with s|s
        . exact s
        . exact absurd s.symm F
       have h6:3/4<=i*ev h z:=by
        have:=Rat.mul_nonneg (a:=i-ev D z) (b:=ev h z) (by have:=I.2;grind) (by grind);grind
       have p:i*(a*ev f z)<0:=by
        rw[H];have:=Rat.mul_nonneg (a:=c) (b:=i*ev h z-3/4) (by grind) (by grind);have:=L.2;grind
       have M:ev f z<0:=by
        rcases J9 0 (ev f z)with r|r
        . have:=Rat.mul_nonneg (a:=i*a) (b:=ev f z) (Rat.mul_nonneg (by grind) (by grind)) r;grind
        . rcases Rat.le_iff_lt_or_eq.1 r with r|r
          . exact r
          . rw[r]at p;grind
       have:=Rat.mul_pos (a:=-ev f z) (b:=ev h z) (by grind) s;grind
     . have s:ev h z<0:=by
        rcases Rat.le_iff_lt_or_eq.1 s with s|s
        . exact s
        . exact absurd s F
       have h6:i*ev h z<=-(3/4):=by
        have:=Rat.mul_nonneg (a:=i+ev D z) (b:=-ev h z) (by have:=I.1;grind) (by grind);grind
       have p:0<i*(a*ev f z):=by
        rw[H];have:=Rat.mul_nonneg (a:=c) (b:=-(i*ev h z)-3/4) (by grind) (by grind);have:=L.1;grind
       have M:0<ev f z:=by
        rcases J9 (ev f z) 0 with r|r
        . have:=Rat.mul_nonneg (a:=i*a) (b:=-ev f z) (Rat.mul_nonneg (by grind) (by grind)) (by grind);grind
        . rcases Rat.le_iff_lt_or_eq.1 r with r|r
          . exact r
          . rw[<-r]at p;grind
       have:=Rat.mul_pos (a:=ev f z) (b:=-ev h z) M (by grind);grind
    exact⟨N x t (V k).1 (W k).1,N y hy (V k).2 (W k).2⟩
theorem steps{d:Rat}(i:0<d)(a b:Rat):∃n:Nat,b-a<=(n:Rat)*d:=by
 obtain⟨q,hq⟩:=ex ((b-a)/d);refine⟨q.ceil.toNat,?_⟩;have e:b-a=q*d:=by rw[<-hq,Ap (by grind)]
 rw[e];have g:q<=(q.ceil.toNat:Rat):=by
  have c:q<=(q.ceil:Rat):=Rat.le_ceil;have f:(q.ceil:Rat)<=((q.ceil.toNat:Int):Rat):=Rat.intCast_le_intCast.2 (Int.self_le_toNat _);exact Rat.le_trans c f
 have:=Rat.mul_nonneg (a:=(q.ceil.toNat:Rat)-q) (b:=d) (by grind) (by grind);grind
theorem glue{F G:Rat->Nat}(h:Sh B λx y=>F x+G y=F y+G x){b:Rat}(c:Wi B a)(j:Wi B b)(f:a<=b):F a+G b=F b+G a:=by
 obtain⟨d,d0,h⟩:=h;obtain⟨n,m⟩:=steps d0 a b;have:∀(n:Nat) (a:Rat),Wi B a->a<=b->b-a<=(n:Rat)*d->F a+G b=F b+G a:=by
  intro n;induction n with
  |zero=>
   intro a c f g;have e:a=b:=by
    have:((0:Nat):Rat)=0:=rfl;rw[this]at g;grind
   rw[e]
  |succ n o=>
   intro a c f g;have l:((n+1:Nat):Rat)=(n:Rat)+1:=by rw[Rat.natCast_add];rfl
   rw[l]at g;rcases J9 (b-a) d with i|i
   . exact h a b c j f i
   . have k:Wi B (a+d):=⟨by have:=c.1;grind,by have:=j.2;grind⟩;have p:=h a (a+d) c k (by grind) (by grind);have q:=o (a+d) k (by grind) (by grind);omega
 exact this n a c f m
theorem Eh(a:Rat):0<=a*a:=by
 rcases J9 0 a with h|h
 . exact Rat.mul_nonneg h h
 . have:=Rat.mul_nonneg (a:=-a) (b:=-a) (by grind) (by grind);grind
theorem Mi(h:Wi V v):v*v<=V*V:=by
 have:=Rat.mul_nonneg (a:=V-v) (b:=V+v) (by have:=h.2;grind) (by have:=h.1;grind);grind
theorem TN{f c g d:Rat}(m:Wi U u)(n:Wi V v)(p:Wi c y)(j:Wi e a)(l:Wi g i)(q:Wi d f)(C:u*w+v*y=1)(o:w=a*i)
(r:U*(e*g)<=1/4)(s:(V*V)*(e*(c*d))<=1/16):1/2<=(V*V)*(y*(y-a*f)):=by
 have k:=(m.mul (j.mul l)).2;rw[<-o]at k;have t:3/4<=v*y:=by grind
 have x:=Rat.mul_nonneg (a:=V*V-v*v) (b:=y*y) (by have:=Mi n;grind) (Eh y);have z:=Rat.mul_nonneg (a:=v*y-3/4) (b:=v*y+3/4) (by grind) (by grind);have A:=(j.mul (p.mul q)).2;have B:=Rat.mul_nonneg (a:=V*V) (b:=e*(c*d)-a*(y*f)) (Eh V) (by grind);grind
theorem TO{j c f A k d g n:Rat}(I:Wi U u)(x:Wi V v)(s:Wi A a)(G:Wi k i)(r:Wi e j)(l:Wi d c)(z:Wi g f)(ad:u*w+v*y=1)(K:w=a*j)
(o:y=i*j+a*(c+f))(hn:0<n)(hp:n<=f*c)(L:U*(A*e)<=1/4)(N:V*(k*e)<=1/4)
(C:((V*(d+g))*(V*(d+g)))*((k*e)*(A*(d+d+g)))<=n/8):n/8<=((V*(d+g))*(V*(d+g)))*(y*(i*j+a*c)):=by
 obtain⟨M,F⟩:=ex (V*(d+g));have m:=x.mul (l.add z);rw[F]at m C ⊢;have D:=(I.mul (s.mul r)).2;rw[<-K]at D;obtain⟨t,H⟩:=ex (i*j);have p:=G.mul r;rw[H]at p o ⊢;have W:=(x.mul p).2;have E:v*y=v*t+a*(v*(c+f)):=by rw[o];grind
 obtain⟨q,hq⟩:=ex (v*(c+f));rw[hq]at E m;have X:1/2<=a*q:=by grind
 have h6:=Rat.mul_nonneg (a:=a*a) (b:=M*M-q*q) (Eh a) (by have:=Mi m;grind);have h7:=Rat.mul_nonneg (a:=a*q-1/2) (b:=a*q+1/2) (by grind) (by grind);have h8:1/4<=(a*a)*(M*M):=by grind
 have h9:=Rat.mul_nonneg (a:=(a*a)*(M*M)-1/4) (b:=n) (by grind) (by grind);have P:=Rat.mul_nonneg (a:=(a*a)*(M*M)) (b:=f*c-n) (by grind) (by grind);have Q:=Rat.mul_nonneg (a:=(a*a)*(M*M)) (b:=c*c) (by grind) (Eh c);have R:=Rat.mul_nonneg (a:=M*M) (b:=t*t) (Eh M) (Eh t);have S:=(p.mul (s.mul ((l.add l).add z))).1;have T:=Rat.mul_nonneg (a:=M*M) (b:=t*(a*(c+c+f))+(k*e)*(A*(d+d+g))) (Eh M) (by grind);have B:y*(t+a*c)=t*t+t*(a*(c+c+f))+(a*a)*(c*c)+(a*a)*(f*c):=by rw[o];grind
 rw[B];grind
theorem small{K r:Rat}(d:0<=K)(c:0<r):∃e,0<e/\∀f,f<=e->K*f<=r:=by
 refine⟨r/(K+1),YA c (by grind),λf k=>?_⟩;have g:r/(K+1)*(K+1)=r:=Ap (by grind);have i:=Rat.mul_nonneg (a:=K) (b:=r/(K+1)-f) d (by grind);have j:=YA c (show(0:Rat)<K+1 by grind);grind
theorem O4{s:Rat}(C:s*s=1):∀(p:List Rat),Jd p=p->p≠[]->∃B e:Rat,0<B/\0<e/\∀x,B<=x->e<=s^(p.length-1)*cf p (p.length-1)*ev p (s*x):=by
 intro p;induction p with
 |nil=>intro _ h;exact absurd rfl h
 |cons c t o=>
  intro tp p0;by_cases d:t=[]
  . subst d;have c0:c≠0:=by
     have:=Jt tp p0;simpa[cf]using this
    refine⟨1,c*c,DF,?_,λx _=>?_⟩
    . have:=Ys (f:=[c]) c0 (λx=>Jo c x) 0 0;unfold DU at this;rwa[Jo]at this
    . rw[Jo];simp[cf]
  . have q:Jd t=t:=by
     refine Ot (Or.inr ?_);have:=Jt tp p0;have hl:=Ag.2 d;rw[Ah,show t.length+1-1=(t.length-1)+1 by omega,J3]at this;exact this
    obtain⟨B,e,A,g,h⟩:=o q d;have hl:=Ag.2 d;obtain⟨n,i⟩:∃n,t.length=n+1:=⟨t.length-1,Y⟩;have m:cf (c::t) ((c::t).length-1)=cf t n:=by
     rw[Ah,i,show n+1+1-1=n+1 by omega,J3]
    rw[m,Ah,i,show n+1+1-1=n+1 by omega];rw[i,show n+1-1=n by omega]at h;generalize cf t n=k at *;obtain⟨D,hD,l⟩:=IG (s^(n+1)*k*c);refine⟨B+(D+e)/e,e,?_,g,λx E=>?_⟩
    . have:=YA (a:=D+e) (b:=e) (by grind) g;grind
    . have r:=YA (a:=D+e) (b:=e) (by grind) g;have u:=h x (by grind);have v:(D+e)/e*e=D+e:=Ap (by grind);rw[Hl];have j:s^(n+1)*k*(c+s*x*ev t (s*x))=s^(n+1)*k*c+x*(s^n*k*ev t (s*x)):=by
       rw[Rat.pow_succ];grind
      rw[j];have w:=Rat.mul_nonneg (a:=x) (b:=s^n*k*ev t (s*x)-e) (by grind) (by grind);have y:=Rat.mul_nonneg (a:=x-(D+e)/e) (b:=e) (by grind) (by grind);have z:=l.1;grind
theorem TP(tp:Jd p=p)(p0:p≠[]):∃B,0<B/\∀x,B<=x->0<cf p (p.length-1)*ev p x:=by
 obtain⟨B,e,b,i,c⟩:=O4 (s:=1) (by grind) p tp p0;refine⟨B,b,λx f=>?_⟩;have d:=c x f;have a:∀n:Nat,(1:Rat)^n=1:=λn=>by
  induction n with
  |zero=>rfl
  |succ n g=>rw[Rat.pow_succ,g];grind
 rw[a,Co,Co]at d;grind
theorem TQ(tp:Jd p=p)(p0:p≠[]):∃B,0<B/\∀x,x<=-B->0<(-1)^(p.length-1)*cf p (p.length-1)*ev p x:=by
 obtain⟨B,e,a,d,b⟩:=O4 (s:=-1) (by grind) p tp p0;refine⟨B,a,λx f=>?_⟩;have c:=b (-x) (by grind);rw[show(-1:Rat)*-x=x by grind]at c;grind
theorem O5:∀(l m:List Rat) (a b:Rat),l.length=m.length->(∀i (k:i<l.length) (e:i<m.length),0<l[i]*m[i])->(0<a*b\/(a=0/\b=0))->YB a l=YB b m:=by
 intro l;induction l with
 |nil=>intro m a b h _ _;cases m with|nil=>rfl|cons=>simp at h
 |cons c l n=>
  intro m a b h e f;cases m with
  |nil=>simp at h
  |cons d m=>
   have g:0<c*d:=e 0 O O;obtain⟨o,p⟩:=Jv g;have j:=n m c d (by simpa using h) (λi k s=>e (i+1) si si) (Or.inl g);rw[Yd o,Yd p,j];rcases f with f|⟨rfl,rfl⟩
   . have:=KQ f g;by_cases q:a*c<0
     . rw[BC q,BC (this.1 q)]
     . rw[BB q,BB λr=>q (this.2 r)]
   . rw[A2,A2]

