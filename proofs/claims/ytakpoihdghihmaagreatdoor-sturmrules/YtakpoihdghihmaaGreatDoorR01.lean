import Derived.Test.YtakpoihdghihmaaGreatDoorR00
set_option maxRecDepth 100000
set_option maxHeartbeats 16000000
namespace Go.Proofs.YtakpoihdghihmaaGreatDoor
section
theorem BC:type_of% @if_pos:=@if_pos
theorem BA:type_of% @if_neg:=@if_neg
def cf(p:List Rat)(i:Nat):Rat:=p[i]?.getD 0
variable{p q:List Rat}{i k n:Nat}{f:Nat->Rat}{B K L u v:Rat}
theorem YH(i:Nat):cf [] i=0:=by simp[cf]
theorem YQ(c:Rat)(t:List Rat):cf (c::t) 0=c:=by simp[cf]
theorem J3(c:Rat)(t:List Rat)(i:Nat):cf (c::t) (i+1)=cf t i:=by simp[cf]
theorem Ye(h:p.length<=i):cf p i=0:=by simp[cf,List.getElem?_eq_none h]
theorem Sr(h:i<p.length):cf p i=p[i]:=by simp[cf,List.getElem?_eq_getElem h]
theorem XS(p:List Rat)(k:Nat)(c:Rat)(i:Nat)(a:k<p.length):cf (p.set k c) i=if i=k then c else cf p i:=by
 unfold cf;by_cases h:i=k
 . subst h;rw[BC rfl,A9 a];rfl
 . rw[BA h,AR λe=>h e.symm]
theorem J0(n:Nat)(i:Nat):cf (List.replicate n 0) i=0:=by
 unfold cf;rw[List.getElem?_replicate];split<;>rfl
theorem MP(n:Nat)(f:Nat->Rat)(i:Nat):cf ((List.range n).map f) i=if i<n then f i else 0:=by
 unfold cf;rw[Fa];by_cases h:i<n
 . rw[List.getElem?_range h,BC h];rfl
 . rw[AQ si,BA h];rfl
theorem MQ(p:List Rat)(n i:Nat):cf (p.take n) i=if i<n then cf p i else 0:=by
 unfold cf;rw[C5];split<;>rfl
def Jd:List Rat->List Rat
 |[]=>[]
 |c::t=>match Jd t with
  |[]=>if c=0 then []else [c]
  |d::s=>c::d::s
theorem Yf(p:List Rat)(i:Nat):cf (Jd p) i=cf p i:=by
 induction p generalizing i with
 |nil=>rfl
 |cons c t b=>
  have a:=b;rw[Jd];split
  . rename_i h;rw[h]at a;cases i with
    |zero=>split<;>simp_all [cf]
    |succ i=>
     rw[J3,<-a i,YH];split
     . rfl
     . rw[J3,YH]
  . rename_i d s h;rw[<-h];cases i with
    |zero=>rfl
    |succ i=>rw[J3,J3,a]
theorem MR(h:∀i,cf p i=0):Jd p=[]:=by
 induction p with
 |nil=>rfl
 |cons c t d=>
  have a:=d (λi=>by rw[<-J3 c t i];exact h (i+1));have b:c=0:=by rw[<-YQ c t];exact h 0
  rw[Jd,a];show(if c=0 then []else [c])=[];rw[BC b]
theorem Hz(h:∀i,cf p i=cf q i):Jd p=Jd q:=by
 induction p generalizing q with
 |nil=>rw[MR (p:=q) λi=>by rw[<-h i,YH]];rfl
 |cons c t e=>
  cases q with
  |nil=>rw[MR (p:=c::t) λi=>by rw[h i,YH]];rfl
  |cons d s=>
   have a:c=d:=by have:=h 0;rwa[YQ,YQ]at this
   have b:=e (q:=s) (λi=>by have:=h (i+1);rwa[J3,J3]at this);rw[Jd,Jd,a,b]
theorem J5(p:List Rat):Jd (Jd p)=Jd p:=Hz (Yf p)
theorem YR(p:List Rat):(Jd p).length<=p.length:=by
 induction p with
 |nil=>exact Aa _
 |cons c t a=>
  rw[Jd];split
  . split<;>simp
  . rename_i d s h;rw[h]at a;simp only[Af]at a ⊢;omega
theorem Js(h:Jd p=p)(f:p≠[]):cf p (p.length-1)≠0:=by
 induction p with
 |nil=>exact absurd rfl f
 |cons c t i=>
  rw[Jd]at h;split at h
  . rename_i b;split at h
    . cases h
    . rename_i a;simp only[List.cons.injEq,true_and]at h;subst h;simpa[cf]using a
  . rename_i d s b;simp only[List.cons.injEq,true_and]at h;have a:Jd t=t:=by rw[b,h]
    have g:=i a (by rw[<-h];simp);have e:(c::t).length-1=(t.length-1)+1:=by rw[<-h];simp
    rw[e,J3];exact g
theorem Om(h:p=[]\/cf p (p.length-1)≠0):Jd p=p:=by
 induction p with
 |nil=>rfl
 |cons c t a=>
  rcases h with h|h
  . cases h
  . cases t with
    |nil=>rw[Jd];show(if c=0 then []else [c])=[c];rw[BA (by simpa[cf]using h)]
    |cons d s=>
     have e:(c::d::s).length-1=((d::s).length-1)+1:=Z
     rw[e,J3]at h;rw[Jd,a (Or.inr h)]
theorem Ss(d:n<=p.length)(a:n=0\/cf p (n-1)≠0)(c:∀j,n<=j->cf p j=0):Jd p=p.take n:=by
 have e:Jd p=Jd (p.take n):=Hz λi=>by
  rw[MQ];split
  . rfl
  . exact c i O
 rw[e];refine Om ?_;rcases a with a|a
 . left;rw[a];rfl
 . by_cases b:n=0
   . left;rw[b];rfl
   . right
     rw[Al,CK d,MQ,BC O];exact a
theorem MS(h:∀j,n<=j->cf p j=0):(Jd p).length<=n:=by
 rcases A6 n (Jd p).length with a|a
 . have b:=Js (J5 p) (by intro c;rw[c]at a;simp at a);rw[Yf]at b;exact absurd (h _ O) b
 . exact a
def ev:List Rat->Rat->Rat
 |[],_=>0
 |c::t,x=>c+x*ev t x
theorem KL(h:∀i,cf p i=0)(x:Rat):ev p x=0:=by
 induction p with
 |nil=>rfl
 |cons c t d=>
  have a:=d (λi=>by rw[<-J3 c t i];exact h (i+1));have b:c=0:=by rw[<-YQ c t];exact h 0
  rw[ev,a,b];grind
theorem KM(h:∀i,cf p i=cf q i)(x:Rat):ev p x=ev q x:=by
 induction p generalizing q with
 |nil=>rw[KL (p:=q) λi=>by rw[<-h i,YH]];rfl
 |cons c t e=>
  cases q with
  |nil=>rw[KL (p:=c::t) λi=>by rw[h i,YH]];rfl
  |cons d s=>
   have a:c=d:=by have:=h 0;rwa[YQ,YQ]at this
   have b:=e (q:=s) (λi=>by have:=h (i+1);rwa[J3,J3]at this);rw[ev,ev,a,b]
theorem XH(p:List Rat)(x:Rat):ev (Jd p) x=ev p x:=KM (Yf p) x
def dv:List Rat->Rat->Rat
 |[],_=>0
 |_::t,x=>ev t x+x*dv t x
theorem On(h:∀i,cf p i=0)(x:Rat):dv p x=0:=by
 induction p with
 |nil=>rfl
 |cons c t b=>
  have a:∀i,cf t i=0:=λi=>by rw[<-J3 c t i];exact h (i+1)
  rw[dv,b a,KL a];grind
theorem Oo(h:∀i,cf p i=cf q i)(x:Rat):dv p x=dv q x:=by
 induction p generalizing q with
 |nil=>rw[On (p:=q) λi=>by rw[<-h i,YH]];rfl
 |cons c t b=>
  cases q with
  |nil=>rw[On (p:=c::t) λi=>by rw[h i,YH]];rfl
  |cons d s=>
   have a:∀i,cf t i=cf s i:=λi=>by have:=h (i+1);rwa[J3,J3]at this
   rw[dv,dv,b a,KM a]
def GV:List Rat->Rat->List Rat
 |[],_=>[]
 |_::t,a=>match t with
  |[]=>[]
  |d::s=>ev (d::s) a::GV (d::s) a
theorem Oq(p:List Rat)(a:Rat):(GV p a).length=p.length-1:=by
 induction p with
 |nil=>rfl
 |cons c t b=>
  cases t with
  |nil=>rfl
  |cons d s=>
   rw[GV,Af,b];simp
theorem MT(p:List Rat)(a x:Rat):ev p x=ev p a+(x-a)*ev (GV p a) x:=by
 induction p with
 |nil=>simp[ev,GV];grind
 |cons c t b=>
  cases t with
  |nil=>simp[ev,GV];grind
  |cons d s=>
   rw[GV];generalize hq:d::s=q at *;rw[ev,ev,ev,b];grind
theorem St{m:Nat}(h:∀n:Nat,m<=n->ev p (n:Rat)=0)(x:Rat):ev p x=0:=by
 obtain⟨k,d⟩:=ex (p.length);induction k generalizing p m with
 |zero=>
  have:p=[]:=AD d
  rw[this];rfl
 |succ k j=>
  have c:=h m (Aa _);have e:∀n:Nat,m+1<=n->ev (GV p m) (n:Rat)=0:=λn o=>by
   have a:=MT p (m:Rat) (n:Rat);rw[h n O,c]at a;have f:((n:Rat)-(m:Rat))≠0:=by
    intro l;have g:(n:Rat)=(m:Rat):=by grind
    have:=Rat.natCast_inj.1 g;omega
   have i:((n:Rat)-(m:Rat))*ev (GV p m) n=0:=by grind
   rcases AM.1 i with b|b
   . exact absurd b f
   . exact b
  have a:=j e (by rw[Oq,d];rfl);rw[MT p (m:Rat) x,c,a];grind
theorem Su(h:∀x,ev p x=0)(i:Nat):cf p i=0:=by
 induction p generalizing i with
 |nil=>rfl
 |cons c t l=>
  have b:c=0:=by have:=h 0;rw[ev]at this;grind
  have d:∀x,ev t x=0:=λx=>St (m:=1) (λn o=>by
   have e:=h (n:Rat);rw[ev,b]at e;have f:(n:Rat)≠0:=λg=>by
    have j:(n:Rat)=((0:Nat):Rat):=g;have:=Rat.natCast_inj.1 j;omega
   have k:(n:Rat)*ev t n=0:=by grind
   rcases AM.1 k with a|a
   . exact absurd a f
   . exact a) x
  cases i with
  |zero=>rw[YQ];exact b
  |succ i=>rw[J3];exact l d i
def XP:List Rat->List Rat->List Rat
 |[],q=>q
 |p,[]=>p
 |c::t,d::s=>(c+d)::XP t s
def Y0(a:Rat)(p:List Rat):List Rat:=p.map λc=>c*a
def EQ:List Rat->List Rat->List Rat
 |[],_=>[]
 |c::t,q=>XP (Y0 c q) (0::EQ t q)
theorem Ha(p q:List Rat)(i:Nat):cf (XP p q) i=cf p i+cf q i:=by
 induction p generalizing q i with
 |nil=>rw[XP,YH];grind
 |cons c t a=>
  cases q with
  |nil=>
   rw[XP,YH]
   . grind
   . intro h;cases h
  |cons d s=>
   rw[XP];cases i with
   |zero=>simp[cf]
   |succ i=>rw[J3,J3,J3,a]
theorem Ik(a:Rat)(p:List Rat)(i:Nat):cf (Y0 a p) i=cf p i*a:=by
 unfold cf Y0;rw[Fa];cases p[i]? with
 |none=>simp
 |some c=>rfl
theorem GW(p q:List Rat)(x:Rat):ev (XP p q) x=ev p x+ev q x:=by
 induction p generalizing q with
 |nil=>rw[XP,ev];grind
 |cons c t a=>
  cases q with
  |nil=>
   rw[XP]
   . rw[show ev [] x=0 from rfl];grind
   . intro h;cases h
  |cons d s=>rw[XP,ev,ev,ev,a];grind
theorem Xz(a:Rat)(p:List Rat)(x:Rat):ev (Y0 a p) x=ev p x*a:=by
 induction p with
 |nil=>simp[Y0,ev]
 |cons c t b=>
  rw[show Y0 a (c::t)=(c*a)::Y0 a t from rfl,ev,ev,b];grind
theorem MU(p q:List Rat)(x:Rat):ev (EQ p q) x=ev p x*ev q x:=by
 induction p with
 |nil=>rw[EQ,ev];grind
 |cons c t a=>rw[EQ,GW,Xz,ev,ev,a];grind
theorem Sv(p q:List Rat)(x:Rat):dv (XP p q) x=dv p x+dv q x:=by
 induction p generalizing q with
 |nil=>rw[XP,dv];grind
 |cons c t a=>
  cases q with
  |nil=>
   rw[XP]
   . rw[show dv [] x=0 from rfl];grind
   . intro h;cases h
  |cons d s=>rw[XP,dv,dv,dv,a,GW];grind
theorem Ot(a:Rat)(p:List Rat)(x:Rat):dv (Y0 a p) x=dv p x*a:=by
 induction p with
 |nil=>simp[Y0,dv]
 |cons c t b=>
  rw[show Y0 a (c::t)=(c*a)::Y0 a t from rfl,dv,dv,b,Xz];grind
theorem Sw(p q:List Rat)(x:Rat):dv (EQ p q) x=dv p x*ev q x+ev p x*dv q x:=by
 induction p with
 |nil=>rw[EQ,dv,ev];grind
 |cons c t a=>rw[EQ,Sv,Ot,dv,dv,ev,a,MU];grind
theorem Ky(h:∀x,ev p x=ev q x):Jd p=Jd q:=by
 have a:∀i,cf (XP p (Y0 (-1) q)) i=0:=Su (λx=>by rw[GW,Xz,h x];grind);refine Hz λi=>?_;have:=a i;rw[Ha,Ik]at this;grind
def Dg:Nat->(Nat->Rat)->Rat
 |0,_=>0
 |n+1,f=>Dg n f+f n
theorem Sx{g:Nat->Rat}(h:∀k,k<n->f k=g k):Dg n f=Dg n g:=by
 induction n with
 |zero=>rfl
 |succ n a=>rw[Dg,Dg,a λk b=>h k O,h n O]
theorem MV(h:∀k,k<n->f k=0):Dg n f=0:=by
 induction n with
 |zero=>rfl
 |succ n a=>rw[Dg,a λk b=>h k O,h n O];grind
theorem Sy(n:Nat)(f:Nat->Rat):Dg (n+1) f=f 0+Dg n (λk=>f (k+1)):=by
 induction n with
 |zero=>simp[Dg];grind
 |succ n a=>rw[Dg,a,Dg];grind
def conv(p q:List Rat)(n k:Nat):Rat:=Dg n λi=>if i<=k then cf p i*cf q (k-i)else 0
theorem Il(p q:List Rat)(k:Nat):cf (EQ p q) k=conv p q p.length k:=by
 induction p generalizing k with
 |nil=>rfl
 |cons c t b=>
  rw[EQ,Ha,Ik,conv,Af,Sy];rw[BC (AO _),YQ,Fq];have e:cf (0::EQ t q) k=Dg t.length (λi=>if i+1<=k then cf (c::t) (i+1)*cf q (k-(i+1))else 0):=by
   cases k with
   |zero=>
    rw[YQ,MV];intro i a;rw[BA O]
   |succ k=>
    rw[J3,b,conv];refine Sx λi a=>?_;by_cases h:i<=k
    . rw[BC h,BC O,J3,show k+1-(i+1)=k-i from by omega]
    . rw[BA h,BA O]
  rw[e];grind
theorem Sz(p q:List Rat)(h:p.length<=n):conv p q n k=conv p q p.length k:=by
 induction n with
 |zero=>rw[show p.length=0 from by omega]
 |succ n b=>
  by_cases a:p.length=n+1
  . rw[a]
  . rw[<-b O];show conv p q n k+_=_
    dsimp only;rw[Ye (show p.length<=n from by omega)];split<;>grind
theorem S0(h:p.length+q.length<=k+1):cf (EQ p q) k=0:=by
 rw[Il];refine MV λi a=>?_;split
 . rw[Ye (p:=q) O];grind
 . rfl
theorem MW(p q:List Rat)(m n:Nat)(hp:p.length=m+1)(hq:q.length=n+1):cf (EQ p q) (m+n)=cf p m*cf q n:=by
 rw[Il,hp,conv,Dg,BC O,show m+n-m=n from by omega];rw[MV]
 . grind
 . intro i a;split
   . rw[Ye (p:=q) O];grind
   . rfl
theorem Ou(hp:Jd p=p)(hq:Jd q=q)(d:p≠[])(e:q≠[]):(Jd (EQ p q)).length=p.length+q.length-1:=by
 have f:=Js hp d;have g:=Js hq e;have l1:0<p.length:=Ae.2 d;have l2:0<q.length:=Ae.2 e;have i:=MW p q (p.length-1) (q.length-1) O O;have b:cf (EQ p q) (p.length-1+(q.length-1))≠0:=by
  rw[i];intro c;rcases AM.1 c with a|a
  . exact f a
  . exact g a
 have c:(Jd (EQ p q)).length<=p.length+q.length-1:=MS λj k=>S0 O;rcases A6 (Jd (EQ p q)).length (p.length+q.length-1)with a|a
 . rw[<-Yf]at b;exact absurd (Ye O) b
 . omega
def Hb(p:List Rat):List Rat:=(List.range (p.length-1)).map λi=>cf p (i+1)*((i+1:Nat):Rat)
theorem Im(p:List Rat)(i:Nat):cf (Hb p) i=cf p (i+1)*((i+1:Nat):Rat):=by
 unfold Hb;rw[MP];split
 . rfl
 . rw[Ye O];grind
theorem TA(p:List Rat)(x:Rat):ev (Hb p) x=dv p x:=by
 induction p with
 |nil=>rfl
 |cons c t a=>
  have e:∀i,cf (Hb (c::t)) i=cf (XP t (0::Hb t)) i:=λi=>by
   rw[Im,Ha,J3];cases i with
   |zero=>rw[YQ];grind
   |succ i=>rw[J3,Im];grind
  rw[KM e,GW,ev,a,dv];grind
theorem TB(p:List Rat):XP p []=p:=by cases p<;>rfl
theorem TC{u v a b:List Rat}(hq:Jd q=q)(r:q≠[])(s:Jd u=u)(t:Jd a=a)(w:Jd v=v)(y:Jd b=b)(C:v.length<q.length)(D:b.length<q.length)
(h:∀x,ev q x*ev u x+ev v x=ev q x*ev a x+ev b x):u=a/\v=b:=by
 obtain⟨d,g⟩:=ex (Jd (XP u (Y0 (-1) a)));have k:Jd d=d:=by rw[<-g,J5]
 have e:∀x,ev d x=ev u x-ev a x:=λx=>by rw[<-g,XH,GW,Xz];grind
 have l:∀x,ev (EQ d q) x=ev (XP b (Y0 (-1) v)) x:=λx=>by
  rw[MU,GW,Xz,e];have:=h x;grind
 have o:=Ky l;have z:(Jd (XP b (Y0 (-1) v))).length<q.length:=by
  refine Ch (MS (n:=q.length-1) λj B=>?_) O;rw[Ha,Ik,Ye O,Ye O];grind
 have i:d=[]:=by
  by_cases c:d=[]
  . exact c
  . have p:=Ou k hq c r;have A:0<d.length:=Ae.2 c;rw[o]at p;omega
 have m:∀x,ev u x=ev a x:=λx=>by
  have:=e x;rw[i,show ev [] x=0 from rfl]at this;grind
 have f:u=a:=by rw[<-s,<-t];exact Ky m
 refine⟨f,?_⟩;rw[<-w,<-y];exact Ky λx=>by
  have:=h x;rw[f]at this;grind
def FR(i:Nat)(q:List Rat):List Rat:=List.replicate i 0++q
theorem Kz(i:Nat)(q:List Rat)(k:Nat):cf (FR i q) k=if i<=k then cf q (k-i)else 0:=by
 unfold cf FR;by_cases h:k<i
 . rw[AV (by simpa using h),BA O,List.getElem?_replicate];split<;>rfl
 . rw[AE si,BC O];simp
theorem Ov(i:Nat)(q:List Rat)(x:Rat):ev (FR i q) x=x^i*ev q x:=by
 induction i with
 |zero=>rw[show FR 0 q=q from rfl];grind
 |succ i a=>
  rw[show FR (i+1) q=0::FR i q from rfl,ev,a];grind
def YJ(z:List Rat)(i:Nat)(a:Rat)(q:List Rat):Nat->List Rat
 |0=>z
 |j+1=>(YJ z i a q j).set (i+j) (cf (YJ z i a q j) (i+j)+a*cf q j)
theorem Yx(z:List Rat)(i:Nat)(a:Rat)(q:List Rat)(j:Nat):(YJ z i a q j).length=z.length:=by
 induction j with
 |zero=>rfl
 |succ j b=>rw[YJ,CJ,b]
theorem TD(z:List Rat)(i:Nat)(a:Rat)(q:List Rat)(j k:Nat)(h:i+j<=z.length):cf (YJ z i a q j) k=cf z k+(if i<=k/\k<i+j then a*cf q (k-i)else 0):=by
 induction j with
 |zero=>rw[YJ,BA O];grind
 |succ j b=>
  have b:=b O;rw[YJ,XS _ _ _ _ (by rw[Yx];omega)];by_cases c:k=i+j
  . subst c;rw[BC rfl,b,BA O,BC O,show i+j-i=j from by omega];grind
  . rw[BA c,b];by_cases d:i<=k/\k<i+j
    . rw[BC d,BC O]
    . rw[BA d,BA O]
theorem MX(z:List Rat)(i:Nat)(a:Rat)(q:List Rat)(k:Nat)(h:i+q.length<=z.length):cf (YJ z i a q q.length) k=cf z k+a*cf (FR i q) k:=by
 rw[TD _ _ _ _ _ _ h,Kz];by_cases b:i<=k
 . by_cases c:k<i+q.length
   . rw[BC ⟨b,c⟩,BC b]
   . rw[BA O,BC b,Ye (p:=q) O];grind
 . rw[BA O,BA b];grind
theorem TE(z:List Rat)(i:Nat)(a:Rat)(q:List Rat)(x:Rat)(h:i+q.length<=z.length):ev (YJ z i a q q.length) x=ev z x+a*(x^i*ev q x):=by
 have e:∀k,cf (YJ z i a q q.length) k=cf (XP z (Y0 a (FR i q))) k:=λk=>by
  rw[MX _ _ _ _ _ h,Ha,Ik];grind
 rw[KM e,GW,Xz,Ov];grind
def XR(p q:List Rat)(n:Nat):Nat->List Rat
 |0=>List.replicate n 0
 |i+1=>YJ (XR p q n i) i (cf p i) q q.length
theorem MY(p q:List Rat)(n i:Nat):(XR p q n i).length=n:=by
 induction i with
 |zero=>rw[XR,AA]
 |succ i a=>rw[XR,Yx,a]
theorem Ow(p q:List Rat)(n i k:Nat)(h:i=0\/i+q.length<=n+1):cf (XR p q n i) k=conv p q i k:=by
 induction i with
 |zero=>rw[XR,J0];rfl
 |succ i a=>
  rw[XR,MX _ _ _ _ _ (by rw[MY];omega),a O,Kz];show _=conv p q i k+_
  dsimp only;split<;>grind
def JF(p q:List Rat)(n m:Nat):Nat->List Rat × List Rat
 |0=>(List.replicate m 0,p)
 |k+1=>
  let s:=JF p q n m k
  let i:=m-(k+1)
  let c:=cf s.2 (i+n)/cf q n
  (s.1.set i c,YJ s.2 i (-c) q q.length)
theorem YS(p q:List Rat)(n m k:Nat):(JF p q n m k).1.length=m/\(JF p q n m k).2.length=p.length:=by
 induction k with
 |zero=>exact⟨AA,rfl⟩
 |succ k a=>rw[JF];exact⟨by rw[CJ];exact a.1,by rw[Yx];exact a.2⟩
theorem TF(p:List Rat)(i:Nat)(c:Rat)(x:Rat)(d:i<p.length)(b:cf p i=0):ev (p.set i c) x=ev p x+c*x^i:=by
 have e:∀k,cf (p.set i c) k=cf (XP p (FR i [c])) k:=λk=>by
  rw[XS _ _ _ _ d,Ha,Kz];by_cases h:k=i
  . subst h;rw[BC rfl,BC (Aa _),b,Cq,YQ];grind
  . rw[BA h];by_cases a:i<=k
    . rw[BC a,Ye (p:=[c]) si];grind
    . rw[BA a];grind
 rw[KM e,GW,Ov];simp[ev];grind
theorem Ox(p q:List Rat)(n m:Nat)(hq:q.length=n+1)(hl:cf q n≠0)(v:m+n=p.length):∀k,k<=m->
 (∀x,ev p x=ev q x*ev (JF p q n m k).1 x+ev (JF p q n m k).2 x)/\(∀j,j<m-k->cf (JF p q n m k).1 j=0)/\(∀j,m-k+n<=j->cf (JF p q n m k).2 j=0):=by
 intro k;induction k with
 |zero=>
  intro _;refine⟨λx=>?_,λj _=>J0 _ _,λj e=>Ye (by show p.length<=j;omega)⟩;rw[JF];dsimp only;rw[KL (J0 m)];grind
 |succ k r=>
  intro u;obtain⟨f,b,g⟩:=r O;obtain⟨l1,l2⟩:=YS p q n m k;rw[JF];dsimp only;generalize w:JF p q n m k=s at *;obtain⟨i,o⟩:=ex (m-(k+1));rw[o];obtain⟨c,d⟩:=ex (cf s.2 (i+n)/cf q n);rw[d];have a:i+q.length<=s.2.length:=O
  have t:c*cf q n=cf s.2 (i+n):=by rw[<-d];exact Ap hl
  refine⟨λx=>?_,λj e=>?_,λj e=>?_⟩
  . rw[TF _ _ _ _ O (b i O),TE _ _ _ _ _ a,f x];grind
  . rw[XS _ _ _ _ O,BA O];exact b j O
  . rw[MX _ _ _ _ _ a,Kz,BC O];by_cases l:j=i+n
    . subst l;rw[show i+n-i=n from by omega];grind
    . rw[g j O,Ye (p:=q) O];grind
def Jo(p q:List Rat):List Rat:=Jd (JF p q (q.length-1) (p.length-(q.length-1)) (p.length-(q.length-1))).1
def JK(p q:List Rat):List Rat:=Jd (JF p q (q.length-1) (p.length-(q.length-1)) (p.length-(q.length-1))).2
theorem YT(p q:List Rat)(hq:Jd q=q)(a:q≠[]):(∀x,ev p x=ev q x*ev (Jo p q) x+ev (JK p q) x)/\(JK p q).length<q.length/\Jd (Jo p q)=Jo p q/\Jd (JK p q)=JK p q:=by
 have l1:0<q.length:=Ae.2 a;refine⟨λx=>?_,?_,J5 _,J5 _⟩
 . unfold Jo JK;rw[XH,XH];by_cases h:q.length-1<=p.length
   . exact(Ox p q (q.length-1) (p.length-(q.length-1)) O (Js hq a) O _ (Aa _)).1 x
   . rw[show p.length-(q.length-1)=0 from by omega,JF];dsimp only;rw[KL (J0 0)];grind
 . unfold JK;refine Ch (MS (n:=q.length-1) λj b=>?_) O;by_cases h:q.length-1<=p.length
   . exact(Ox p q (q.length-1) (p.length-(q.length-1)) O (Js hq a) O _ (Aa _)).2.2 j O
   . rw[show p.length-(q.length-1)=0 from by omega,JF];exact Ye (by dsimp only;omega)
def XI(p q:List Rat):List Rat:=Jd (XP p q)
def JD(p q:List Rat):List Rat:=Jd (XP p (Y0 (-1) q))
def Jr(p q:List Rat):List Rat:=Jd (EQ p q)
def Jb(p:List Rat):List Rat:=Jd (Hb p)
theorem Io(p q:List Rat):Jd (XI p q)=XI p q:=J5 _
theorem Yh(p q:List Rat):Jd (JD p q)=JD p q:=J5 _
theorem J2(p q:List Rat):Jd (Jr p q)=Jr p q:=J5 _
theorem Jq(p:List Rat):Jd (Jb p)=Jb p:=J5 _
theorem YK(p q:List Rat)(x:Rat):ev (XI p q) x=ev p x+ev q x:=by unfold XI;rw[XH,GW]
theorem Y9(p q:List Rat)(x:Rat):ev (JD p q) x=ev p x-ev q x:=by unfold JD;rw[XH,GW,Xz];grind
theorem Jg(p q:List Rat)(x:Rat):ev (Jr p q) x=ev p x*ev q x:=by unfold Jr;rw[XH,MU]
theorem Xk(p:List Rat)(x:Rat):ev (Jb p) x=dv p x:=by unfold Jb;rw[XH,TA]
theorem TG(p q:List Rat)(i:Nat):cf (XI p q) i=cf p i+cf q i:=by unfold XI;rw[Yf,Ha]
theorem MZ(p q:List Rat)(i:Nat):cf (JD p q) i=cf p i-cf q i:=by unfold JD;rw[Yf,Ha,Ik];grind
theorem TH(p q:List Rat):(XP p q).length=max p.length q.length:=by
 induction p generalizing q with
 |nil=>rw[XP];simp
 |cons c t a=>
  cases q with
  |nil=>rw[TB];simp
  |cons d s=>rw[XP,Af,a,Af,Af];omega
theorem TI(p q:List Rat):(XI p q).length<=max p.length q.length:=by
 have:=YR (XP p q);rw[TH]at this;exact this
theorem Xr(hp:Jd p=p)(hq:Jd q=q)(h:∀x,ev p x=ev q x):p=q:=by rw[<-hp,<-hq];exact Ky h
theorem TJ(p q:List Rat):Jb (Jr p q)=XI (Jr (Jb p) q) (Jr p (Jb q)):=by
 refine Xr (Jq _) (Io _ _) λx=>?_;rw[Xk,YK,Jg,Jg,Xk,Xk,<-Sw];exact Oo (λi=>by unfold Jr;rw[Yf]) x
theorem J9(a b:Rat):a<=b\/b<=a:=Rat.le_total
theorem Yy{a b:Rat}(c:0<a)(d:0<b):0<a/b:=by
 have e:a/b*b=a:=Ap (by grind);rcases J9 (a/b) 0 with h|h
 . have:=Rat.mul_nonneg (a:=-(a/b)) (b:=b) (by grind) (by grind);grind
 . rcases Rat.le_iff_lt_or_eq.1 h with h|h
   . exact h
   . rw[<-h]at e;grind
theorem TK{U V:Rat}(a:-U<=u)(b:u<=U)(c:-V<=v)(d:v<=V):-(U*V)<=u*v/\u*v<=U*V:=by
 have e:=Rat.mul_nonneg (a:=U-u) (b:=V+v) (by grind) (by grind);have f:=Rat.mul_nonneg (a:=U+u) (b:=V-v) (by grind) (by grind);have g:=Rat.mul_nonneg (a:=U-u) (b:=V-v) (by grind) (by grind);have i:=Rat.mul_nonneg (a:=U+u) (b:=V+v) (by grind) (by grind);constructor<;>grind
def Wi(K u:Rat):Prop:=-K<=u/\u<=K
theorem Wi.mul(h:Wi K u)(a:Wi L v):Wi (K*L) (u*v):=TK h.1 h.2 a.1 a.2
theorem Wi.add(h:Wi K u)(a:Wi L v):Wi (K+L) (u+v):=by have:=h.1;have:=h.2;have:=a.1;have:=a.2;constructor<;>grind
theorem Wi.mono(h:Wi K u)(hl:K<=L):Wi L u:=by have:=h.1;have:=h.2;constructor<;>grind
theorem Hc(c:Rat)(p:List Rat)(x:Rat):ev (c::p) x=c+x*ev p x:=rfl
theorem H7(c:Rat):∃K,0<K/\Wi K c:=by
 rcases J9 0 c with h|h
 . exact⟨c+1,by grind,by constructor<;>grind⟩
 . exact⟨-c+1,by grind,by constructor<;>grind⟩
theorem Xp(p:List Rat)(b:0<=B):∃K,0<K/\∀x,Wi B x->Wi K (ev p x):=by
 induction p with
 |nil=>exact⟨1,DF,λx _=>⟨by simp[ev];grind,by simp[ev];grind⟩⟩
 |cons c p f=>
  obtain⟨K,d,h⟩:=f;obtain⟨C,g,e⟩:=H7 c;have:=Rat.mul_nonneg b (Rat.le_of_lt d);exact⟨C+B*K,by grind,λx a=>e.add (a.mul (h x a))⟩
theorem TL(p:List Rat)(a:0<=B):∃K,0<K/\∀x y,Wi B x->Wi B y->x<=y->Wi (K*(y-x)) (ev p x-ev p y):=by
 induction p with
 |nil=>exact⟨1,DF,λx y _ _ d=>⟨by simp[ev];grind,by simp[ev];grind⟩⟩
 |cons c p l=>
  obtain⟨K,j,h⟩:=l;obtain⟨C,m,k⟩:=Xp p a;refine⟨C+B*K+1,by have:=Rat.mul_nonneg a (Rat.le_of_lt j);grind,λx y b f d=>?_⟩;have g:Wi (y-x) (x-y):=⟨by grind,by grind⟩;have i:=(g.mul (k x b)).add (f.mul (h x y b f d));have e:ev (c::p) x-ev (c::p) y=(x-y)*ev p x+y*(ev p x-ev p y):=by rw[Hc,Hc];grind
  rw[e];refine i.mono ?_;grind
def Sh(B:Rat)(P:Rat->Rat->Prop):Prop:=∃d,0<d/\∀x y,Wi B x->Wi B y->x<=y->y-x<=d->P x y
section
variable {B:Rat} {P Q:Rat->Rat->Prop}
theorem Sh.and(h:Sh B P)(f:Sh B Q):Sh B λx y=>P x y/\Q x y:=by
 obtain⟨d,d0,h⟩:=h;obtain⟨e,g,f⟩:=f;rcases J9 d e with i|i
 . exact⟨d,d0,λx y a b c l=>⟨h x y a b c l,f x y a b c (by grind)⟩⟩
 . exact⟨e,g,λx y a b c l=>⟨h x y a b c (by grind),f x y a b c l⟩⟩
theorem Sh.mono(h:Sh B P)(e:∀x y,Wi B x->Wi B y->x<=y->P x y->Q x y):Sh B Q:=by
 obtain⟨d,d0,h⟩:=h;exact⟨d,d0,λx y a b c l=>e x y a b c (h x y a b c l)⟩
theorem Sh.all(h:∀x y,Wi B x->Wi B y->x<=y->P x y):Sh B P:=⟨1,DF,λx y a b c _=>h x y a b c⟩
end
def DR(p:List Rat)(x y:Rat):Prop:=0<ev p x*ev p y
theorem GX(p:List Rat){B e:Rat}(n:0<=B)(o:0<e):Sh B λx y=>¬DR p x y->Wi e (ev p x)/\Wi e (ev p y):=by
 obtain⟨K,j,h⟩:=TL p n;refine⟨e/K,Yy o j,λx y a b c l q=>?_⟩;have k:=h x y a b c;have m:K*(y-x)<=e:=by
  have:=Rat.mul_le_mul_of_nonneg_left l (Rat.le_of_lt j);have r:K*(e/K)=e:=by rw[Ck,Ap (by grind)]
  grind
 have i:=k.mono m;have u:ev p x*ev p y<=0:=Rat.not_lt.1 q;have s:=i.1;have t:=i.2;rcases J9 0 (ev p x)with f|f<;>rcases J9 0 (ev p y)with g|g
 . rcases Rat.le_iff_lt_or_eq.1 f with d|d
   . rcases Rat.le_iff_lt_or_eq.1 g with q2|q2
     . have:=Rat.mul_pos d q2;grind
     . constructor<;>constructor<;>grind
   . constructor<;>constructor<;>grind
 . constructor<;>constructor<;>grind
 . constructor<;>constructor<;>grind
 . rcases Rat.le_iff_lt_or_eq.1 f with d|d
   . rcases Rat.le_iff_lt_or_eq.1 g with q2|q2
     . have:=Rat.mul_pos (a:=- ev p x) (b:=- ev p y) (by grind) (by grind);grind
     . constructor<;>constructor<;>grind
   . constructor<;>constructor<;>grind
end
section
def Yz:Rat->List Rat->Nat
 |_,[]=>0
 |a,b::l=>if b=0 then Yz a l else(if a*b<0 then 1 else 0)+Yz b l
def DO(l:List Rat):Nat:=Yz 0 l
def JQ(l:List (List Rat))(x:Rat):List Rat:=l.map λp=>ev p x
variable{a b:Rat}
theorem JL(p:List Rat)(l:List (List Rat))(x:Rat):JQ (p::l) x=ev p x::JQ l x:=rfl
theorem TM(h:a<0)(c:0<=b):a*b<=0:=by
 have:=Rat.mul_nonneg (a:=-a) (b:=b) (by grind) c;grind
theorem Oy(h:a<0)(c:0<=b)(d:0<a*b):False:=by have:=TM h c;grind
theorem KN{c d:Rat}(h:0<a*c)(j:0<b*d):a*b<0↔c*d<0:=by
 have g:0<(a*b)*(c*d):=by have:=Rat.mul_pos h j;grind
 constructor
 . intro i;rcases J9 0 (c*d)with e|e
   . exact(Oy i e g).elim
   . rcases Rat.le_iff_lt_or_eq.1 e with f|f
     . exact f
     . rw[f]at g;grind
 . intro i;rcases J9 0 (a*b)with e|e
   . exact(Oy i e (by rw[Ck];exact g)).elim
   . rcases Rat.le_iff_lt_or_eq.1 e with f|f
     . exact f
     . rw[f]at g;grind
theorem Jv(h:0<a*b):a≠0/\b≠0:=⟨λe=>by rw[e]at h;grind,λe=>by rw[e]at h;grind⟩
theorem TN(h:a*b<0):a≠0/\b≠0:=⟨λe=>by rw[e]at h;grind,λe=>by rw[e]at h;grind⟩
theorem Yd(h:b≠0)(l:List Rat):Yz a (b::l)=(if a*b<0 then 1 else 0)+Yz b l:=by
 rw[Yz,BA h]
theorem Oz{g h:Rat}(i:a*h<0)(l:List Rat):Yz a (g::h::l)=1+Yz h l:=by
 obtain⟨m,f⟩:=TN i;by_cases d:g=0
 . rw[Yz,BC d,Yd f,BC i]
 . rw[Yd d,Yd f];have j:0<g*g:=by
    rcases J9 0 g with e|e
    . rcases Rat.le_iff_lt_or_eq.1 e with c|c
      . exact Rat.mul_pos c c
      . exact absurd c.symm d
    . rcases Rat.le_iff_lt_or_eq.1 e with c|c
      . have:=Rat.mul_pos (a:=-g) (b:=-g) (by grind) (by grind);grind
      . exact absurd c d
   have k:(a*g)*(g*h)<0:=by
    have:=Rat.mul_pos (a:=-(a*h)) (b:=g*g) (by grind) j;grind
   by_cases p:a*g<0
   . have:¬g*h<0:=λq=>by
      have:=Rat.mul_pos (a:=-(a*g)) (b:=-(g*h)) (by grind) (by grind);grind
     rw[BC p,BA this];omega
   . have:g*h<0:=by
      rcases J9 0 (g*h)with q|q
      . have:=Rat.mul_nonneg (a:=a*g) (b:=g*h) (Rat.not_lt.1 p) q;grind
      . rcases Rat.le_iff_lt_or_eq.1 q with q|q
        . exact q
        . rw[q]at k;grind
     rw[BA p,BC this];omega
def O0(x y:Rat):List (List Rat)->Prop
 |[]=>False
 |[f]=>DR f x y
 |[_,g]=>DR g x y
 |f::g::h::l=>(DR f x y\/DR g x y)/\(¬DR g x y->ev f x*ev h x<0/\ev f y*ev h y<0)/\O0 x y (g::h::l)
structure Gd(x y:Rat)(l:List (List Rat)):Prop where
 o:O0 x y l
section
variable {x y:Rat}
variable{l:List (List Rat)}{f g:List Rat}{a:Rat}
theorem Gd.adj(h:Gd x y (f::g::l)):DR f x y\/DR g x y:=by
 match l,h with
 |[],h=>exact Or.inr h.o
 |_::_,h=>exact h.o.1
theorem Gd.tail(h:Gd x y (f::g::l)):Gd x y (g::l):=by
 match l,h with
 |[],h=>exact⟨h.o⟩
 |_::_,h=>exact⟨h.o.2.2⟩
theorem Gd.same:∀(n:Nat) (l:List (List Rat)) (f:List Rat),l.length<=n->Gd x y (f::l)->DR f x y->Yz (ev f x) (JQ l x)=Yz (ev f y) (JQ l y):=by
 intro n;induction n with
 |zero=>
  intro l f hl _ _
  have:l=[]:=Az.1 O
  subst this;rfl
 |succ n d=>
  intro l f hl a e;match l,hl,a with
  |[],_,_=>rfl
  |g::l,hl,a=>
   by_cases b:DR g x y
   . obtain⟨j,k⟩:=Jv b;rw[JL,JL,Yd j,Yd k,d l g (by simp at hl;omega) a.tail b];have:=KN e b;by_cases p:ev f x*ev g x<0
     . rw[BC p,BC (this.1 p)]
     . rw[BA p,BA λq=>p (this.2 q)]
   . match l,hl,a with
     |[],_,a=>exact absurd a.o b
     |h::l,hl,a=>
      have i:DR h x y:=(a.tail.adj).resolve_left b;have c:ev f x*ev h x<0/\ev f y*ev h y<0:=a.o.2.1 b;rw[JL,JL,JL,JL,Oz c.1,Oz c.2,d l h (by simp at hl;omega) a.tail.tail i]
theorem IA(h:a≠0)(l:List Rat):DO (a::l)=Yz a l:=by
 unfold DO;rw[Yd h,A2,BA DF];omega
theorem IB{b:Rat}(h:b≠0)(l:List Rat):DO (a::b::l)=(if a*b<0 then 1 else 0)+Yz b l:=by
 by_cases c:a=0
 . rw[DO,Yz,BC c,c,A2,Yd h,A2]
 . rw[IA c,Yd h]
theorem Gd.stay(h:Gd x y (f::l))(a:DR f x y):DO (JQ (f::l) x)=DO (JQ (f::l) y):=by
 obtain⟨b,c⟩:=Jv a;rw[JL,JL,IA b,IA c];exact h.same _ l f (Aa _) a
theorem Gd.both{m:List (List Rat)}(h:Gd x y (f::l))(c:Gd x y (g::m)){k:Rat}(B:k≠0)(w:∀x,ev f x=k*ev g x)
(v:¬DR g x y->∀f1 l1 d o,l=f1::l1->m=d::o->0<k*ev f1 x*ev d x/\0<k*ev f1 y*ev d y):
 DO (JQ (f::l) x)+DO (JQ (g::m) y)=DO (JQ (f::l) y)+DO (JQ (g::m) x):=by
 have H:0<k*k:=by
  rcases J9 0 k with i|i
  . rcases Rat.le_iff_lt_or_eq.1 i with c|c
    . exact Rat.mul_pos c c
    . exact absurd c.symm B
  . rcases Rat.le_iff_lt_or_eq.1 i with c|c
    . have:=Rat.mul_pos (a:=-k) (b:=-k) (by grind) (by grind);grind
    . exact absurd c B
 have A:ev f x*ev f y=(k*k)*(ev g x*ev g y):=by rw[w,w];grind
 by_cases j:DR g x y
 . have n:DR f x y:=by unfold DR at *;rw[A];exact Rat.mul_pos H j
   have:=h.stay n;have:=c.stay j;omega
 . have n:¬DR f x y:=λq=>j (by
    unfold DR at *;rw[A]at q;rcases J9 (ev g x*ev g y) 0 with r|r
    . have:=Rat.mul_nonneg (a:=k*k) (b:=-(ev g x*ev g y)) (by grind) (by grind);grind
    . rcases Rat.le_iff_lt_or_eq.1 r with r|r
      . exact r
      . rw[<-r]at q;grind)
   match l,m,h,c,v j with
   |[],_,h,_,_=>exact absurd h.o n
   |_::_,[],_,c,_=>exact absurd c.o j
   |f1::l1,d::o,h,c,v=>
    obtain⟨N,P⟩:=v f1 l1 d o rfl rfl;have C:=(h.adj).resolve_left n;have D:=(c.adj).resolve_left j;obtain⟨I,K⟩:=Jv C;obtain⟨L,M⟩:=Jv D;rw[JL,JL,JL,JL,JL,JL,JL,JL,IB I,IB K,IB L,IB M,h.tail.same _ l1 f1 (Aa _) C,c.tail.same _ o d (Aa _) D];have t:∀z,0<k*ev f1 z*ev d z->(ev f z*ev f1 z<0↔ev g z*ev d z<0):=λz G=>by
     have E:ev f z*ev f1 z=ev g z*(k*ev f1 z):=by rw[w];grind
     rw[E];by_cases u:ev g z=0
     . rw[u];grind
     . have F:0<ev g z*ev g z:=by
        rcases J9 0 (ev g z)with i|i
        . rcases Rat.le_iff_lt_or_eq.1 i with c|c
          . exact Rat.mul_pos c c
          . exact absurd c.symm u
        . rcases Rat.le_iff_lt_or_eq.1 i with c|c
          . have:=Rat.mul_pos (a:=-(ev g z)) (b:=-(ev g z)) (by grind) (by grind);grind
          . exact absurd c u
       exact KN F G
    have p:=t x N;have s:=t y P;by_cases e:ev g x*ev d x<0<;>by_cases q2:ev g y*ev d y<0
    . rw[BC e,BC q2,BC (p.2 e),BC (s.2 q2)]
    . rw[BC e,BA q2,BC (p.2 e),BA λq=>q2 (s.1 q)];omega
    . rw[BA e,BC q2,BA λq=>e (p.1 q),BC (s.2 q2)];omega
    . rw[BA e,BA q2,BA λq=>e (p.1 q),BA λq=>q2 (s.1 q)]
end
end
def O1:List (List Rat)->Prop
 |[]=>False
 |[f]=>∃c:Rat,c≠0/\∀x,ev f x=c
 |[_,g]=>∃c:Rat,c≠0/\∀x,ev g x=c
 |f::g::h::l=>(∃(q:List Rat) (a c:Rat),0<a/\0<c/\∀x,a*ev f x=ev q x*ev g x-c*ev h x)/\O1 (g::h::l)
structure StC(l:List (List Rat)):Prop where
 o:O1 l
variable{f g p:List Rat}{U V a c e i u v w y:Rat}
theorem StC.one(h:c≠0)(k:∀x,ev f x=c):StC [f]:=⟨⟨c,h,k⟩⟩
theorem StC.two(h:c≠0)(k:∀x,ev g x=c):StC [f,g]:=⟨⟨c,h,k⟩⟩
theorem StC.more{h q:List Rat}{l:List (List Rat)}(b:0<a)(d:0<c)(k:∀x,a*ev f x=ev q x*ev g x-c*ev h x)(n:StC (g::h::l)):StC (f::g::h::l):=⟨⟨⟨q,a,c,b,d,k⟩,n.o⟩⟩
theorem GY:(0:Rat)<1/4:=by grind
theorem Jm(c x:Rat):ev [c] x=c:=by simp[ev];grind
theorem Yr(g:c≠0)(h:∀x,ev f x=c)(x y:Rat):DR f x y:=by
 unfold DR;rw[h,h];rcases J9 0 c with e|e
 . rcases Rat.le_iff_lt_or_eq.1 e with d|d
   . exact Rat.mul_pos d d
   . exact absurd d.symm g
 . rcases Rat.le_iff_lt_or_eq.1 e with d|d
   . have:=Rat.mul_pos (a:=-c) (b:=-c) (by grind) (by grind);grind
   . exact absurd d g
theorem StC.cop:∀ {f g:List Rat} {l:List (List Rat)},StC (f::g::l)->∃u v:List Rat,∀x,ev u x*ev f x+ev v x*ev g x=1
 |_,_,[],⟨⟨c,d,b⟩⟩=>by
  refine⟨[],[1/c],λx=>?_⟩;rw[b,Jm]
  have:1/c*c=1:=Ap d
  simp[ev];grind
 |f,g,h::l,⟨⟨⟨q,a,c,s,d,b⟩,o⟩⟩=>by
  have n:StC (g::h::l):=⟨o⟩;obtain⟨u,v,p⟩:=StC.cop n;have e:c≠0:=by grind
  refine⟨Jr [-(a/c)] v,XI u (Jr [1/c] (Jr v q)),λx=>?_⟩;rw[Jg,YK,Jg,Jg,Jm,Jm];have i:=p x;have r:=b x;have j:1/c*c=1:=Ap e;have k:a/c=1/c*a:=by rw[Fh,Fh,Cn,Ck]
  rw[k];have m:ev h x=1/c*(ev q x*ev g x-a*ev f x):=by
   have:ev h x=1/c*(c*ev h x):=by rw[<-Rat.mul_assoc,j,Cn]
   rw[this];congr 1;grind
  rw[m]at i;grind
theorem K0{f g:Rat}(h:u*f+v*g=1)(b:Wi U u)(a:Wi e f)(c:U*e<=1/4):3/4<=v*g:=by
 have:=(b.mul a).2;grind
theorem StC.gd{B:Rat}(j:0<=B):∀ {l:List (List Rat)},StC l->Sh B λx y=>Gd x y l
 |[_],⟨⟨_,n,m⟩⟩=>Sh.all λx y _ _ _=>⟨Yr n m x y⟩
 |[_,_],⟨⟨_,n,m⟩⟩=>Sh.all λx y _ _ _=>⟨Yr n m x y⟩
 |f::g::h::l,⟨⟨⟨q,a,c,ha,n,m⟩,ai⟩⟩=>by
  have k:StC (g::h::l):=⟨ai⟩;have A:=StC.gd j k;obtain⟨u,v,aj⟩:=(StC.more ha n m k).cop;obtain⟨u2,D,ak⟩:=k.cop;obtain⟨U1,P,ad⟩:=Xp u j;obtain⟨U2,R,ae⟩:=Xp v j;obtain⟨U3,S,af⟩:=Xp u2 j;obtain⟨i,C,ah⟩:=Xp D j;obtain⟨Q,T,X⟩:=Xp q j;have d:∀ {r K:Rat},0<r->0<K->K*(r/K)=r:=λ_ hK=>by rw[Ck,Ap (by grind)]
  have E:=(((GX f j (Yy GY P)).and (GX g j (Yy GY R))).and ((GX g j (Yy GY S)).and (GX g j (Yy (Yy (show(0:Rat)<c/2 by grind) C) T)))).and A;refine E.mono λx y t hy am ⟨⟨⟨tf,tg⟩,V,W⟩,A⟩=>?_;refine⟨⟨?_,λk=>?_,A.o⟩⟩
  . by_cases U:DR f x y
    . exact Or.inl U
    . by_cases sg:DR g x y
      . exact Or.inr sg
      . exfalso
        have G:=K0 (aj x) (ad x t) (tf U).1 (by rw[d GY P];exact Rat.le_refl);have o:=((ae x t).mul (tg sg).1).2;rw[d GY R]at o;grind
  . have N:∀z,Wi B z->Wi (1/4/U3) (ev g z)->Wi (c/2/i/Q) (ev g z)->ev f z*ev h z<0:=λz w w1 w2=>by
     have G:=K0 (ak z) (af z w) w1 (by rw[d GY S];exact Rat.le_refl);have o:=(X z w).mul w2;rw[d (Yy (show(0:Rat)<c/2 by grind) C) T]at o;have H:=m z;have I:=ah z w;have L:Wi (c/2) (i*(ev q z*ev g z)):=by
      have:=(show Wi i i from⟨by grind,by grind⟩).mul o;rwa[d (show(0:Rat)<c/2 by grind) C]at this
     have F:ev h z≠0:=λe=>by rw[e]at G;grind
     rcases J9 0 (ev h z)with s|s
     . have s:0<ev h z:=by
        rcases Rat.le_iff_lt_or_eq.1 s with s|s
        . exact s
        . exact absurd s.symm F
       have h6:3/4<=i*ev h z:=by
        have:=Rat.mul_nonneg (a:=i-ev D z) (b:=ev h z) (by have:=I.2;grind) (by grind);grind
       have p:i*(a*ev f z)<0:=by
        rw[H];have:=Rat.mul_nonneg (a:=c) (b:=i*ev h z-3/4) (by grind) (by grind);have:=L.2;grind
       have M:ev f z<0:=by
        rcases J9 0 (ev f z)with r|r
        . have:=Rat.mul_nonneg (a:=i*a) (b:=ev f z) (Rat.mul_nonneg (by grind) (by grind)) r;grind
        . rcases Rat.le_iff_lt_or_eq.1 r with r|r
          . exact r
          . rw[r]at p;grind
       have:=Rat.mul_pos (a:=-ev f z) (b:=ev h z) (by grind) s;grind
     . have s:ev h z<0:=by
        rcases Rat.le_iff_lt_or_eq.1 s with s|s
        . exact s
        . exact absurd s F
       have h6:i*ev h z<=-(3/4):=by
        have:=Rat.mul_nonneg (a:=i+ev D z) (b:=-ev h z) (by have:=I.1;grind) (by grind);grind
       have p:0<i*(a*ev f z):=by
        rw[H];have:=Rat.mul_nonneg (a:=c) (b:=-(i*ev h z)-3/4) (by grind) (by grind);have:=L.1;grind
       have M:0<ev f z:=by
        rcases J9 (ev f z) 0 with r|r
        . have:=Rat.mul_nonneg (a:=i*a) (b:=-ev f z) (Rat.mul_nonneg (by grind) (by grind)) (by grind);grind
        . rcases Rat.le_iff_lt_or_eq.1 r with r|r
          . exact r
          . rw[<-r]at p;grind
       have:=Rat.mul_pos (a:=ev f z) (b:=-ev h z) M (by grind);grind
    exact⟨N x t (V k).1 (W k).1,N y hy (V k).2 (W k).2⟩
theorem steps{d:Rat}(i:0<d)(a b:Rat):∃n:Nat,b-a<=(n:Rat)*d:=by
 obtain⟨q,hq⟩:=ex ((b-a)/d);refine⟨q.ceil.toNat,?_⟩;have e:b-a=q*d:=by rw[<-hq,Ap (by grind)]
 rw[e];have g:q<=(q.ceil.toNat:Rat):=by
  have c:q<=(q.ceil:Rat):=Rat.le_ceil;have f:(q.ceil:Rat)<=((q.ceil.toNat:Int):Rat):=Rat.intCast_le_intCast.2 (Int.self_le_toNat _);exact Rat.le_trans c f
 have:=Rat.mul_nonneg (a:=(q.ceil.toNat:Rat)-q) (b:=d) (by grind) (by grind);grind
theorem glue{B:Rat}{F G:Rat->Nat}(h:Sh B λx y=>F x+G y=F y+G x){b:Rat}(c:Wi B a)(j:Wi B b)(f:a<=b):F a+G b=F b+G a:=by
 obtain⟨d,d0,h⟩:=h;obtain⟨n,m⟩:=steps d0 a b
 have:∀(n:Nat) (a:Rat),Wi B a->a<=b->b-a<=(n:Rat)*d->F a+G b=F b+G a:=by
  intro n;induction n with
  |zero=>
   intro a c f g;have e:a=b:=by
    have:((0:Nat):Rat)=0:=rfl
    rw[this]at g;grind
   rw[e]
  |succ n o=>
   intro a c f g;have l:((n+1:Nat):Rat)=(n:Rat)+1:=by rw[Rat.natCast_add];rfl
   rw[l]at g;rcases J9 (b-a) d with i|i
   . exact h a b c j f i
   . have k:Wi B (a+d):=⟨by have:=c.1;grind,by have:=j.2;grind⟩;have p:=h a (a+d) c k (by grind) (by grind);have q:=o (a+d) k (by grind) (by grind);omega
 exact this n a c f m
theorem Ec(a:Rat):0<=a*a:=by
 rcases J9 0 a with h|h
 . exact Rat.mul_nonneg h h
 . have:=Rat.mul_nonneg (a:=-a) (b:=-a) (by grind) (by grind);grind
theorem Ma(h:Wi V v):v*v<=V*V:=by
 have:=Rat.mul_nonneg (a:=V-v) (b:=V+v) (by have:=h.2;grind) (by have:=h.1;grind);grind
theorem TO{f c g d:Rat}(m:Wi U u)(n:Wi V v)(p:Wi c y)(j:Wi e a)(l:Wi g i)(q:Wi d f)(C:u*w+v*y=1)(o:w=a*i)
(r:U*(e*g)<=1/4)(s:(V*V)*(e*(c*d))<=1/16):1/2<=(V*V)*(y*(y-a*f)):=by
 have k:=(m.mul (j.mul l)).2;rw[<-o]at k;have t:3/4<=v*y:=by grind
 have x:=Rat.mul_nonneg (a:=V*V-v*v) (b:=y*y) (by have:=Ma n;grind) (Ec y);have z:=Rat.mul_nonneg (a:=v*y-3/4) (b:=v*y+3/4) (by grind) (by grind);have A:=(j.mul (p.mul q)).2;have B:=Rat.mul_nonneg (a:=V*V) (b:=e*(c*d)-a*(y*f)) (Ec V) (by grind);grind
theorem TP{j c f A k d g n:Rat}(I:Wi U u)(x:Wi V v)(s:Wi A a)(G:Wi k i)(r:Wi e j)(l:Wi d c)(z:Wi g f)(ad:u*w+v*y=1)(K:w=a*j)
(o:y=i*j+a*(c+f))(hn:0<n)(hp:n<=f*c)(L:U*(A*e)<=1/4)(N:V*(k*e)<=1/4)
(C:((V*(d+g))*(V*(d+g)))*((k*e)*(A*(d+d+g)))<=n/8):n/8<=((V*(d+g))*(V*(d+g)))*(y*(i*j+a*c)):=by
 obtain⟨M,F⟩:=ex (V*(d+g));have m:=x.mul (l.add z);rw[F]at m C ⊢;have D:=(I.mul (s.mul r)).2;rw[<-K]at D;obtain⟨t,H⟩:=ex (i*j);have p:=G.mul r;rw[H]at p o ⊢;have W:=(x.mul p).2;have E:v*y=v*t+a*(v*(c+f)):=by rw[o];grind
 obtain⟨q,hq⟩:=ex (v*(c+f));rw[hq]at E m;have X:1/2<=a*q:=by grind
 have h6:=Rat.mul_nonneg (a:=a*a) (b:=M*M-q*q) (Ec a) (by have:=Ma m;grind);have h7:=Rat.mul_nonneg (a:=a*q-1/2) (b:=a*q+1/2) (by grind) (by grind);have h8:1/4<=(a*a)*(M*M):=by grind
 have h9:=Rat.mul_nonneg (a:=(a*a)*(M*M)-1/4) (b:=n) (by grind) (by grind);have P:=Rat.mul_nonneg (a:=(a*a)*(M*M)) (b:=f*c-n) (by grind) (by grind);have Q:=Rat.mul_nonneg (a:=(a*a)*(M*M)) (b:=c*c) (by grind) (Ec c);have R:=Rat.mul_nonneg (a:=M*M) (b:=t*t) (Ec M) (Ec t);have S:=(p.mul (s.mul ((l.add l).add z))).1;have T:=Rat.mul_nonneg (a:=M*M) (b:=t*(a*(c+c+f))+(k*e)*(A*(d+d+g))) (Ec M) (by grind);have B:y*(t+a*c)=t*t+t*(a*(c+c+f))+(a*a)*(c*c)+(a*a)*(f*c):=by rw[o];grind
 rw[B];grind
theorem small{K r:Rat}(d:0<=K)(c:0<r):∃e,0<e/\∀f,f<=e->K*f<=r:=by
 refine⟨r/(K+1),Yy c (by grind),λf k=>?_⟩;have g:r/(K+1)*(K+1)=r:=Ap (by grind);have i:=Rat.mul_nonneg (a:=K) (b:=r/(K+1)-f) d (by grind);have j:=Yy c (show(0:Rat)<K+1 by grind);grind
theorem O2{s:Rat}(C:s*s=1):∀(p:List Rat),Jd p=p->p≠[]->∃B e:Rat,0<B/\0<e/\∀x,B<=x->e<=s^(p.length-1)*cf p (p.length-1)*ev p (s*x):=by
 intro p;induction p with
 |nil=>intro _ h;exact absurd rfl h
 |cons c t o=>
  intro tp p0;by_cases d:t=[]
  . subst d;have c0:c≠0:=by
     have:=Js tp p0;simpa[cf]using this
    refine⟨1,c*c,DF,?_,λx _=>?_⟩
    . have:=Yr (f:=[c]) c0 (λx=>Jm c x) 0 0;unfold DR at this;rwa[Jm]at this
    . rw[Jm];simp[cf]
  . have q:Jd t=t:=by
     refine Om (Or.inr ?_);have:=Js tp p0;have hl:=Ae.2 d;rw[Af,show t.length+1-1=(t.length-1)+1 by omega,J3]at this;exact this
    obtain⟨B,e,A,g,h⟩:=o q d;have hl:=Ae.2 d;obtain⟨n,i⟩:∃n,t.length=n+1:=⟨t.length-1,O⟩;have m:cf (c::t) ((c::t).length-1)=cf t n:=by
     rw[Af,i,show n+1+1-1=n+1 by omega,J3]
    rw[m,Af,i,show n+1+1-1=n+1 by omega];rw[i,show n+1-1=n by omega]at h;generalize cf t n=k at *;obtain⟨D,hD,l⟩:=H7 (s^(n+1)*k*c);refine⟨B+(D+e)/e,e,?_,g,λx E=>?_⟩
    . have:=Yy (a:=D+e) (b:=e) (by grind) g;grind
    . have r:=Yy (a:=D+e) (b:=e) (by grind) g;have u:=h x (by grind);have v:(D+e)/e*e=D+e:=Ap (by grind);rw[Hc];have j:s^(n+1)*k*(c+s*x*ev t (s*x))=s^(n+1)*k*c+x*(s^n*k*ev t (s*x)):=by
       rw[Rat.pow_succ];grind
      rw[j];have w:=Rat.mul_nonneg (a:=x) (b:=s^n*k*ev t (s*x)-e) (by grind) (by grind);have y:=Rat.mul_nonneg (a:=x-(D+e)/e) (b:=e) (by grind) (by grind);have z:=l.1;grind
theorem TQ(tp:Jd p=p)(p0:p≠[]):∃B,0<B/\∀x,B<=x->0<cf p (p.length-1)*ev p x:=by
 obtain⟨B,e,b,i,c⟩:=O2 (s:=1) (by grind) p tp p0;refine⟨B,b,λx f=>?_⟩;have d:=c x f;have a:∀n:Nat,(1:Rat)^n=1:=λn=>by
  induction n with
  |zero=>rfl
  |succ n g=>rw[Rat.pow_succ,g];grind
 rw[a,Cn,Cn]at d;grind
theorem TR(tp:Jd p=p)(p0:p≠[]):∃B,0<B/\∀x,x<=-B->0<(-1)^(p.length-1)*cf p (p.length-1)*ev p x:=by
 obtain⟨B,e,a,d,b⟩:=O2 (s:=-1) (by grind) p tp p0;refine⟨B,a,λx f=>?_⟩;have c:=b (-x) (by grind);rw[show(-1:Rat)*-x=x by grind]at c;grind
theorem O3:∀(l m:List Rat) (a b:Rat),l.length=m.length->(∀i (k:i<l.length) (e:i<m.length),0<l[i]*m[i])->(0<a*b\/(a=0/\b=0))->Yz a l=Yz b m:=by
 intro l;induction l with
 |nil=>intro m a b h _ _;cases m with|nil=>rfl|cons=>simp at h
 |cons c l n=>
  intro m a b h e f;cases m with
  |nil=>simp at h
  |cons d m=>
   have g:0<c*d:=e 0 Z Z;obtain⟨o,p⟩:=Jv g;have j:=n m c d (by simpa using h) (λi k s=>e (i+1) si si) (Or.inl g);rw[Yd o,Yd p,j];rcases f with f|⟨rfl,rfl⟩
   . have:=KN f g;by_cases q:a*c<0
     . rw[BC q,BC (this.1 q)]
     . rw[BA q,BA λr=>q (this.2 r)]
   . rw[A2,A2]

