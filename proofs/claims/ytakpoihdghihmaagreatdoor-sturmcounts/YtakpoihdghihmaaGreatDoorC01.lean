import Derived.Test.YtakpoihdghihmaaGreatDoorC00
set_option maxRecDepth 100000
set_option maxHeartbeats 16000000
namespace Go.Proofs.YtakpoihdghihmaaGreatDoor
section
theorem Bz:type_of% @List.getElem?_eq_getElem:=@List.getElem?_eq_getElem
theorem BC:type_of% @if_pos:=@if_pos
theorem BB:type_of% @if_neg:=@if_neg
def cf(p:List Rat)(i:Nat):Rat:=p[i]?.getD 0
variable{p q:List Rat}{i k n:Nat}{f:Nat->Rat}{B K L u v:Rat}
theorem YY(i:Nat):cf [] i=0:=by simp[cf]
theorem Y6(c:Rat)(t:List Rat):cf (c::t) 0=c:=by simp[cf]
theorem Ya(c:Rat)(t:List Rat)(i:Nat):cf (c::t) (i+1)=cf t i:=by simp[cf]
theorem J3(h:p.length<=i):cf p i=0:=by simp[cf,List.getElem?_eq_none h]
theorem VZ(h:i<p.length):cf p i=p[i]:=by simp[cf,List.getElem?_eq_getElem h]
theorem OJ(p:List Rat)(c:Rat)(i:Nat):cf (p++[c]) i=if i=p.length then c else cf p i:=by
 unfold cf;by_cases h:i<p.length
 . rw[AO h,BB O]
 . rw[AG O];by_cases a:i=p.length
   . rw[BC a,a];simp
   . rw[BB a,As si,As O]
theorem X7(p:List Rat)(k:Nat)(c:Rat)(i:Nat)(a:k<p.length):cf (p.set k c) i=if i=k then c else cf p i:=by
 unfold cf;by_cases h:i=k
 . subst h;rw[BC rfl,Cf a];rfl
 . rw[BB h,A6 λe=>h e.symm]
theorem J0(n:Nat)(i:Nat):cf (List.replicate n 0) i=0:=by
 unfold cf;rw[List.getElem?_replicate];split<;>rfl
theorem MQ(n:Nat)(f:Nat->Rat)(i:Nat):cf ((List.range n).map f) i=if i<n then f i else 0:=by
 unfold cf;rw[C7];by_cases h:i<n
 . rw[List.getElem?_range h,BC h];rfl
 . rw[As si,BB h];rfl
theorem OK(p:List Rat)(n i:Nat):cf (p.take n) i=if i<n then cf p i else 0:=by
 unfold cf;rw[Fe];split<;>rfl
def Jd:List Rat->List Rat
 |[]=>[]
 |c::t=>match Jd t with
  |[]=>if c=0 then []else [c]
  |d::s=>c::d::s
theorem J1(p:List Rat)(i:Nat):cf (Jd p) i=cf p i:=by
 induction p generalizing i with
 |nil=>rfl
 |cons c t b=>
  have a:=b;rw[Jd];split
  . rename_i h;rw[h]at a;cases i with
    |zero=>split<;>simp_all [cf]
    |succ i=>
     rw[Ya,<-a i,YY];split
     . rfl
     . rw[Ya,YY]
  . rename_i d s h;rw[<-h];cases i with
    |zero=>rfl
    |succ i=>rw[Ya,Ya,a]
theorem MR(h:∀i,cf p i=0):Jd p=[]:=by
 induction p with
 |nil=>rfl
 |cons c t d=>
  have a:=d (λi=>by rw[<-Ya c t i];exact h (i+1));have b:c=0:=by rw[<-Y6 c t];exact h 0
  rw[Jd,a];show(if c=0 then []else [c])=[];rw[BC b]
theorem YM(h:∀i,cf p i=cf q i):Jd p=Jd q:=by
 induction p generalizing q with
 |nil=>rw[MR (p:=q) λi=>by rw[<-h i,YY]];rfl
 |cons c t e=>
  cases q with
  |nil=>rw[MR (p:=c::t) λi=>by rw[h i,YY]];rfl
  |cons d s=>
   have a:c=d:=by have:=h 0;rwa[Y6,Y6]at this
   have b:=e (q:=s) (λi=>by have:=h (i+1);rwa[Ya,Ya]at this);rw[Jd,Jd,a,b]
theorem Yf(p:List Rat):Jd (Jd p)=Jd p:=YM (J1 p)
theorem JY(p:List Rat):(Jd p).length<=p.length:=by
 induction p with
 |nil=>exact Aa _
 |cons c t a=>
  rw[Jd];split
  . split<;>simp
  . rename_i d s h;rw[h]at a;simp only[Ai]at a ⊢;omega
theorem Js(h:Jd p=p)(f:p≠[]):cf p (p.length-1)≠0:=by
 induction p with
 |nil=>exact absurd rfl f
 |cons c t i=>
  rw[Jd]at h;split at h
  . rename_i b;split at h
    . cases h
    . rename_i a;simp only[FR,true_and]at h;subst h;simpa[cf]using a
  . rename_i d s b;simp only[FR,true_and]at h;have a:Jd t=t:=by rw[b,h]
    have g:=i a (by rw[<-h];simp);have e:(c::t).length-1=(t.length-1)+1:=by rw[<-h];simp
    rw[e,Ya];exact g
theorem QU(h:p=[]\/cf p (p.length-1)≠0):Jd p=p:=by
 induction p with
 |nil=>rfl
 |cons c t a=>
  rcases h with h|h
  . cases h
  . cases t with
    |nil=>rw[Jd];show(if c=0 then []else [c])=[c];rw[BB (by simpa[cf]using h)]
    |cons d s=>
     have e:(c::d::s).length-1=((d::s).length-1)+1:=Z
     rw[e,Ya]at h;rw[Jd,a (Or.inr h)]
theorem QV(d:n<=p.length)(a:n=0\/cf p (n-1)≠0)(c:∀j,n<=j->cf p j=0):Jd p=p.take n:=by
 have e:Jd p=Jd (p.take n):=YM λi=>by
  rw[OK];split
  . rfl
  . exact c i O
 rw[e];refine QU ?_;rcases a with a|a
 . left;rw[a];rfl
 . by_cases b:n=0
   . left;rw[b];rfl
   . right
     rw[Ak,CR d,OK,BC O];exact a
theorem OL(h:∀j,n<=j->cf p j=0):(Jd p).length<=n:=by
 rcases AQ n (Jd p).length with a|a
 . have b:=Js (Yf p) (by intro c;rw[c]at a;simp at a);rw[J1]at b;exact absurd (h _ O) b
 . exact a
def ev:List Rat->Rat->Rat
 |[],_=>0
 |c::t,x=>c+x*ev t x
theorem Lb(h:∀i,cf p i=0)(x:Rat):ev p x=0:=by
 induction p with
 |nil=>rfl
 |cons c t d=>
  have a:=d (λi=>by rw[<-Ya c t i];exact h (i+1));have b:c=0:=by rw[<-Y6 c t];exact h 0
  rw[ev,a,b];grind
theorem Lc(h:∀i,cf p i=cf q i)(x:Rat):ev p x=ev q x:=by
 induction p generalizing q with
 |nil=>rw[Lb (p:=q) λi=>by rw[<-h i,YY]];rfl
 |cons c t e=>
  cases q with
  |nil=>rw[Lb (p:=c::t) λi=>by rw[h i,YY]];rfl
  |cons d s=>
   have a:c=d:=by have:=h 0;rwa[Y6,Y6]at this
   have b:=e (q:=s) (λi=>by have:=h (i+1);rwa[Ya,Ya]at this);rw[ev,ev,a,b]
theorem X3(p:List Rat)(x:Rat):ev (Jd p) x=ev p x:=Lc (J1 p) x
def dv:List Rat->Rat->Rat
 |[],_=>0
 |_::t,x=>ev t x+x*dv t x
theorem QW(h:∀i,cf p i=0)(x:Rat):dv p x=0:=by
 induction p with
 |nil=>rfl
 |cons c t b=>
  have a:∀i,cf t i=0:=λi=>by rw[<-Ya c t i];exact h (i+1)
  rw[dv,b a,Lb a];grind
theorem QX(h:∀i,cf p i=cf q i)(x:Rat):dv p x=dv q x:=by
 induction p generalizing q with
 |nil=>rw[QW (p:=q) λi=>by rw[<-h i,YY]];rfl
 |cons c t b=>
  cases q with
  |nil=>rw[QW (p:=c::t) λi=>by rw[h i,YY]];rfl
  |cons d s=>
   have a:∀i,cf t i=cf s i:=λi=>by have:=h (i+1);rwa[Ya,Ya]at this
   rw[dv,dv,b a,Lc a]
def IQ:List Rat->Rat->List Rat
 |[],_=>[]
 |_::t,a=>match t with
  |[]=>[]
  |d::s=>ev (d::s) a::IQ (d::s) a
theorem Va(p:List Rat)(a:Rat):(IQ p a).length=p.length-1:=by
 induction p with
 |nil=>rfl
 |cons c t b=>
  cases t with
  |nil=>rfl
  |cons d s=>
   rw[IQ,Ai,b];simp
theorem QY(p:List Rat)(a x:Rat):ev p x=ev p a+(x-a)*ev (IQ p a) x:=by
 induction p with
 |nil=>simp[ev,IQ];grind
 |cons c t b=>
  cases t with
  |nil=>simp[ev,IQ];grind
  |cons d s=>
   rw[IQ];generalize hq:d::s=q at *;rw[ev,ev,ev,b];grind
theorem Vb{m:Nat}(h:∀n:Nat,m<=n->ev p (n:Rat)=0)(x:Rat):ev p x=0:=by
 obtain⟨k,d⟩:=ex (p.length);induction k generalizing p m with
 |zero=>
  have:p=[]:=Ao d
  rw[this];rfl
 |succ k j=>
  have c:=h m (Aa _);have e:∀n:Nat,m+1<=n->ev (IQ p m) (n:Rat)=0:=λn o=>by
   have a:=QY p (m:Rat) (n:Rat);rw[h n O,c]at a;have f:((n:Rat)-(m:Rat))≠0:=by
    intro l;have g:(n:Rat)=(m:Rat):=by grind
    have:=Rat.natCast_inj.1 g;omega
   have i:((n:Rat)-(m:Rat))*ev (IQ p m) n=0:=by grind
   rcases CP.1 i with b|b
   . exact absurd b f
   . exact b
  have a:=j e (by rw[Va,d];rfl);rw[QY p (m:Rat) x,c,a];grind
theorem Vc(h:∀x,ev p x=0)(i:Nat):cf p i=0:=by
 induction p generalizing i with
 |nil=>rfl
 |cons c t l=>
  have b:c=0:=by have:=h 0;rw[ev]at this;grind
  have d:∀x,ev t x=0:=λx=>Vb (m:=1) (λn o=>by
   have e:=h (n:Rat);rw[ev,b]at e;have f:(n:Rat)≠0:=λg=>by
    have j:(n:Rat)=((0:Nat):Rat):=g;have:=Rat.natCast_inj.1 j;omega
   have k:(n:Rat)*ev t n=0:=by grind
   rcases CP.1 k with a|a
   . exact absurd a f
   . exact a) x
  cases i with
  |zero=>rw[Y6];exact b
  |succ i=>rw[Ya];exact l d i
def EJ:List Rat->List Rat->List Rat
 |[],q=>q
 |p,[]=>p
 |c::t,d::s=>(c+d)::EJ t s
def Yr(a:Rat)(p:List Rat):List Rat:=p.map λc=>c*a
def Ew:List Rat->List Rat->List Rat
 |[],_=>[]
 |c::t,q=>EJ (Yr c q) (0::Ew t q)
theorem XP(p q:List Rat)(i:Nat):cf (EJ p q) i=cf p i+cf q i:=by
 induction p generalizing q i with
 |nil=>rw[EJ,YY];grind
 |cons c t a=>
  cases q with
  |nil=>
   rw[EJ,YY]
   . grind
   . intro h;cases h
  |cons d s=>
   rw[EJ];cases i with
   |zero=>simp[cf]
   |succ i=>rw[Ya,Ya,Ya,a]
theorem Xx(a:Rat)(p:List Rat)(i:Nat):cf (Yr a p) i=cf p i*a:=by
 unfold cf Yr;rw[C7];cases p[i]? with
 |none=>simp
 |some c=>rfl
theorem ID(p q:List Rat)(x:Rat):ev (EJ p q) x=ev p x+ev q x:=by
 induction p generalizing q with
 |nil=>rw[EJ,ev];grind
 |cons c t a=>
  cases q with
  |nil=>
   rw[EJ]
   . rw[show ev [] x=0 from rfl];grind
   . intro h;cases h
  |cons d s=>rw[EJ,ev,ev,ev,a];grind
theorem XQ(a:Rat)(p:List Rat)(x:Rat):ev (Yr a p) x=ev p x*a:=by
 induction p with
 |nil=>simp[Yr,ev]
 |cons c t b=>
  rw[show Yr a (c::t)=(c*a)::Yr a t from rfl,ev,ev,b];grind
theorem OM(p q:List Rat)(x:Rat):ev (Ew p q) x=ev p x*ev q x:=by
 induction p with
 |nil=>rw[Ew,ev];grind
 |cons c t a=>rw[Ew,ID,XQ,ev,ev,a];grind
theorem Vd(p q:List Rat)(x:Rat):dv (EJ p q) x=dv p x+dv q x:=by
 induction p generalizing q with
 |nil=>rw[EJ,dv];grind
 |cons c t a=>
  cases q with
  |nil=>
   rw[EJ]
   . rw[show dv [] x=0 from rfl];grind
   . intro h;cases h
  |cons d s=>rw[EJ,dv,dv,dv,a,ID];grind
theorem QZ(a:Rat)(p:List Rat)(x:Rat):dv (Yr a p) x=dv p x*a:=by
 induction p with
 |nil=>simp[Yr,dv]
 |cons c t b=>
  rw[show Yr a (c::t)=(c*a)::Yr a t from rfl,dv,dv,b,XQ];grind
theorem Ve(p q:List Rat)(x:Rat):dv (Ew p q) x=dv p x*ev q x+ev p x*dv q x:=by
 induction p with
 |nil=>rw[Ew,dv,ev];grind
 |cons c t a=>rw[Ew,Vd,QZ,dv,dv,ev,a,OM];grind
theorem Ld(h:∀x,ev p x=ev q x):Jd p=Jd q:=by
 have a:∀i,cf (EJ p (Yr (-1) q)) i=0:=Vc (λx=>by rw[ID,XQ,h x];grind);refine YM λi=>?_;have:=a i;rw[XP,Xx]at this;grind
def sumN:Nat->(Nat->Rat)->Rat
 |0,_=>0
 |n+1,f=>sumN n f+f n
theorem Vf{g:Nat->Rat}(h:∀k,k<n->f k=g k):sumN n f=sumN n g:=by
 induction n with
 |zero=>rfl
 |succ n a=>rw[sumN,sumN,a λk b=>h k O,h n O]
theorem ON(h:∀k,k<n->f k=0):sumN n f=0:=by
 induction n with
 |zero=>rfl
 |succ n a=>rw[sumN,a λk b=>h k O,h n O];grind
theorem Vg(n:Nat)(f:Nat->Rat):sumN (n+1) f=f 0+sumN n (λk=>f (k+1)):=by
 induction n with
 |zero=>simp[sumN];grind
 |succ n a=>rw[sumN,a,sumN];grind
def conv(p q:List Rat)(n k:Nat):Rat:=sumN n λi=>if i<=k then cf p i*cf q (k-i)else 0
theorem Km(p q:List Rat)(k:Nat):cf (Ew p q) k=conv p q p.length k:=by
 induction p generalizing k with
 |nil=>rfl
 |cons c t b=>
  rw[Ew,XP,Xx,conv,Ai,Vg];rw[BC (Az _),Y6,FL];have e:cf (0::Ew t q) k=sumN t.length (λi=>if i+1<=k then cf (c::t) (i+1)*cf q (k-(i+1))else 0):=by
   cases k with
   |zero=>
    rw[Y6,ON];intro i a;rw[BB O]
   |succ k=>
    rw[Ya,b,conv];refine Vf λi a=>?_;by_cases h:i<=k
    . rw[BC h,BC O,Ya,show k+1-(i+1)=k-i from by omega]
    . rw[BB h,BB O]
  rw[e];grind
theorem Q3(p q:List Rat)(h:p.length<=n):conv p q n k=conv p q p.length k:=by
 induction n with
 |zero=>rw[show p.length=0 from by omega]
 |succ n b=>
  by_cases a:p.length=n+1
  . rw[a]
  . rw[<-b O];show conv p q n k+_=_
    dsimp only;rw[J3 (show p.length<=n from by omega)];split<;>grind
theorem Vh(p q:List Rat)(h:k+1<=n):conv p q n k=conv p q (k+1) k:=by
 induction n with
 |zero=>omega
 |succ n b=>
  by_cases a:k+1=n+1
  . rw[a]
  . rw[<-b O];show conv p q n k+_=_
    dsimp only;rw[BB O];grind
theorem Vi(h:p.length+q.length<=k+1):cf (Ew p q) k=0:=by
 rw[Km];refine ON λi a=>?_;split
 . rw[J3 (p:=q) O];grind
 . rfl
theorem Q4(p q:List Rat)(m n:Nat)(hp:p.length=m+1)(hq:q.length=n+1):cf (Ew p q) (m+n)=cf p m*cf q n:=by
 rw[Km,hp,conv,sumN,BC O,show m+n-m=n from by omega];rw[ON]
 . grind
 . intro i a;split
   . rw[J3 (p:=q) O];grind
   . rfl
theorem Q5(hp:Jd p=p)(hq:Jd q=q)(d:p≠[])(e:q≠[]):(Jd (Ew p q)).length=p.length+q.length-1:=by
 have f:=Js hp d;have g:=Js hq e;have l1:0<p.length:=Ae.2 d;have l2:0<q.length:=Ae.2 e;have i:=Q4 p q (p.length-1) (q.length-1) O O;have b:cf (Ew p q) (p.length-1+(q.length-1))≠0:=by
  rw[i];intro c;rcases CP.1 c with a|a
  . exact f a
  . exact g a
 have c:(Jd (Ew p q)).length<=p.length+q.length-1:=OL λj k=>Vi O;rcases AQ (Jd (Ew p q)).length (p.length+q.length-1)with a|a
 . rw[<-J1]at b;exact absurd (J3 O) b
 . omega
def Ik(p:List Rat):List Rat:=(List.range (p.length-1)).map λi=>cf p (i+1)*((i+1:Nat):Rat)
theorem Kn(p:List Rat)(i:Nat):cf (Ik p) i=cf p (i+1)*((i+1:Nat):Rat):=by
 unfold Ik;rw[MQ];split
 . rfl
 . rw[J3 O];grind
theorem Vj(p:List Rat)(x:Rat):ev (Ik p) x=dv p x:=by
 induction p with
 |nil=>rfl
 |cons c t a=>
  have e:∀i,cf (Ik (c::t)) i=cf (EJ t (0::Ik t)) i:=λi=>by
   rw[Kn,XP,Ya];cases i with
   |zero=>rw[Y6];grind
   |succ i=>rw[Ya,Kn];grind
  rw[Lc e,ID,ev,a,dv];grind
theorem Vk(p:List Rat):EJ p []=p:=by cases p<;>rfl
theorem Q6{u v a b:List Rat}(hq:Jd q=q)(r:q≠[])(s:Jd u=u)(t:Jd a=a)(w:Jd v=v)(y:Jd b=b)(C:v.length<q.length)(D:b.length<q.length)
(h:∀x,ev q x*ev u x+ev v x=ev q x*ev a x+ev b x):u=a/\v=b:=by
 obtain⟨d,g⟩:=ex (Jd (EJ u (Yr (-1) a)));have k:Jd d=d:=by rw[<-g,Yf]
 have e:∀x,ev d x=ev u x-ev a x:=λx=>by rw[<-g,X3,ID,XQ];grind
 have l:∀x,ev (Ew d q) x=ev (EJ b (Yr (-1) v)) x:=λx=>by
  rw[OM,ID,XQ,e];have:=h x;grind
 have o:=Ld l;have z:(Jd (EJ b (Yr (-1) v))).length<q.length:=by
  refine Cr (OL (n:=q.length-1) λj B=>?_) O;rw[XP,Xx,J3 O,J3 O];grind
 have i:d=[]:=by
  by_cases c:d=[]
  . exact c
  . have p:=Q5 k hq c r;have A:0<d.length:=Ae.2 c;rw[o]at p;omega
 have m:∀x,ev u x=ev a x:=λx=>by
  have:=e x;rw[i,show ev [] x=0 from rfl]at this;grind
 have f:u=a:=by rw[<-s,<-t];exact Ld m
 refine⟨f,?_⟩;rw[<-w,<-y];exact Ld λx=>by
  have:=h x;rw[f]at this;grind
def Dq(i:Nat)(q:List Rat):List Rat:=List.replicate i 0++q
theorem KC(i:Nat)(q:List Rat)(k:Nat):cf (Dq i q) k=if i<=k then cf q (k-i)else 0:=by
 unfold cf Dq;by_cases h:k<i
 . rw[AO (by simpa using h),BB O,List.getElem?_replicate];split<;>rfl
 . rw[AG si,BC O];simp
theorem MS(i:Nat)(q:List Rat)(x:Rat):ev (Dq i q) x=x^i*ev q x:=by
 induction i with
 |zero=>rw[show Dq 0 q=q from rfl];grind
 |succ i a=>
  rw[show Dq (i+1) q=0::Dq i q from rfl,ev,a];grind
def YZ(z:List Rat)(i:Nat)(a:Rat)(q:List Rat):Nat->List Rat
 |0=>z
 |j+1=>(YZ z i a q j).set (i+j) (cf (YZ z i a q j) (i+j)+a*cf q j)
theorem YQ(z:List Rat)(i:Nat)(a:Rat)(q:List Rat)(j:Nat):(YZ z i a q j).length=z.length:=by
 induction j with
 |zero=>rfl
 |succ j b=>rw[YZ,CB,b]
theorem Vl(z:List Rat)(i:Nat)(a:Rat)(q:List Rat)(j k:Nat)(h:i+j<=z.length):cf (YZ z i a q j) k=cf z k+(if i<=k/\k<i+j then a*cf q (k-i)else 0):=by
 induction j with
 |zero=>rw[YZ,BB O];grind
 |succ j b=>
  have b:=b O;rw[YZ,X7 _ _ _ _ (by rw[YQ];omega)];by_cases c:k=i+j
  . subst c;rw[BC rfl,b,BB O,BC O,show i+j-i=j from by omega];grind
  . rw[BB c,b];by_cases d:i<=k/\k<i+j
    . rw[BC d,BC O]
    . rw[BB d,BB O]
theorem OO(z:List Rat)(i:Nat)(a:Rat)(q:List Rat)(k:Nat)(h:i+q.length<=z.length):cf (YZ z i a q q.length) k=cf z k+a*cf (Dq i q) k:=by
 rw[Vl _ _ _ _ _ _ h,KC];by_cases b:i<=k
 . by_cases c:k<i+q.length
   . rw[BC ⟨b,c⟩,BC b]
   . rw[BB O,BC b,J3 (p:=q) O];grind
 . rw[BB O,BB b];grind
theorem Vm(z:List Rat)(i:Nat)(a:Rat)(q:List Rat)(x:Rat)(h:i+q.length<=z.length):ev (YZ z i a q q.length) x=ev z x+a*(x^i*ev q x):=by
 have e:∀k,cf (YZ z i a q q.length) k=cf (EJ z (Yr a (Dq i q))) k:=λk=>by
  rw[OO _ _ _ _ _ h,XP,Xx];grind
 rw[Lc e,ID,XQ,MS];grind
def YS(p q:List Rat)(n:Nat):Nat->List Rat
 |0=>List.replicate n 0
 |i+1=>YZ (YS p q n i) i (cf p i) q q.length
theorem OP(p q:List Rat)(n i:Nat):(YS p q n i).length=n:=by
 induction i with
 |zero=>rw[YS,Ay]
 |succ i a=>rw[YS,YQ,a]
theorem OQ(p q:List Rat)(n i k:Nat)(h:i=0\/i+q.length<=n+1):cf (YS p q n i) k=conv p q i k:=by
 induction i with
 |zero=>rw[YS,J0];rfl
 |succ i a=>
  rw[YS,OO _ _ _ _ _ (by rw[OP];omega),a O,KC];show _=conv p q i k+_
  dsimp only;split<;>grind
def JJ(p q:List Rat)(n m:Nat):Nat->List Rat × List Rat
 |0=>(List.replicate m 0,p)
 |k+1=>
  let s:=JJ p q n m k
  let i:=m-(k+1)
  let c:=cf s.2 (i+n)/cf q n
  (s.1.set i c,YZ s.2 i (-c) q q.length)
theorem Y0(p q:List Rat)(n m k:Nat):(JJ p q n m k).1.length=m/\(JJ p q n m k).2.length=p.length:=by
 induction k with
 |zero=>exact⟨Ay,rfl⟩
 |succ k a=>rw[JJ];exact⟨by rw[CB];exact a.1,by rw[YQ];exact a.2⟩
theorem Vn(p:List Rat)(i:Nat)(c:Rat)(x:Rat)(d:i<p.length)(b:cf p i=0):ev (p.set i c) x=ev p x+c*x^i:=by
 have e:∀k,cf (p.set i c) k=cf (EJ p (Dq i [c])) k:=λk=>by
  rw[X7 _ _ _ _ d,XP,KC];by_cases h:k=i
  . subst h;rw[BC rfl,BC (Aa _),b,Cy,Y6];grind
  . rw[BB h];by_cases a:i<=k
    . rw[BC a,J3 (p:=[c]) si];grind
    . rw[BB a];grind
 rw[Lc e,ID,MS];simp[ev];grind
theorem Q7(p q:List Rat)(n m:Nat)(hq:q.length=n+1)(hl:cf q n≠0)(v:m+n=p.length):∀k,k<=m->
 (∀x,ev p x=ev q x*ev (JJ p q n m k).1 x+ev (JJ p q n m k).2 x)/\(∀j,j<m-k->cf (JJ p q n m k).1 j=0)/\(∀j,m-k+n<=j->cf (JJ p q n m k).2 j=0):=by
 intro k;induction k with
 |zero=>
  intro _;refine⟨λx=>?_,λj _=>J0 _ _,λj e=>J3 (by show p.length<=j;omega)⟩;rw[JJ];dsimp only;rw[Lb (J0 m)];grind
 |succ k r=>
  intro u;obtain⟨f,b,g⟩:=r O;obtain⟨l1,l2⟩:=Y0 p q n m k;rw[JJ];dsimp only;generalize w:JJ p q n m k=s at *;obtain⟨i,o⟩:=ex (m-(k+1));rw[o];obtain⟨c,d⟩:=ex (cf s.2 (i+n)/cf q n);rw[d];have a:i+q.length<=s.2.length:=O
  have t:c*cf q n=cf s.2 (i+n):=by rw[<-d];exact Ar hl
  refine⟨λx=>?_,λj e=>?_,λj e=>?_⟩
  . rw[Vn _ _ _ _ O (b i O),Vm _ _ _ _ _ a,f x];grind
  . rw[X7 _ _ _ _ O,BB O];exact b j O
  . rw[OO _ _ _ _ _ a,KC,BC O];by_cases l:j=i+n
    . subst l;rw[show i+n-i=n from by omega];grind
    . rw[g j O,J3 (p:=q) O];grind
def Jz(p q:List Rat):List Rat:=Jd (JJ p q (q.length-1) (p.length-(q.length-1)) (p.length-(q.length-1))).1
def JE(p q:List Rat):List Rat:=Jd (JJ p q (q.length-1) (p.length-(q.length-1)) (p.length-(q.length-1))).2
theorem Yh(p q:List Rat)(hq:Jd q=q)(a:q≠[]):(∀x,ev p x=ev q x*ev (Jz p q) x+ev (JE p q) x)/\(JE p q).length<q.length/\Jd (Jz p q)=Jz p q/\Jd (JE p q)=JE p q:=by
 have l1:0<q.length:=Ae.2 a;refine⟨λx=>?_,?_,Yf _,Yf _⟩
 . unfold Jz JE;rw[X3,X3];by_cases h:q.length-1<=p.length
   . exact(Q7 p q (q.length-1) (p.length-(q.length-1)) O (Js hq a) O _ (Aa _)).1 x
   . rw[show p.length-(q.length-1)=0 from by omega,JJ];dsimp only;rw[Lb (J0 0)];grind
 . unfold JE;refine Cr (OL (n:=q.length-1) λj b=>?_) O;by_cases h:q.length-1<=p.length
   . exact(Q7 p q (q.length-1) (p.length-(q.length-1)) O (Js hq a) O _ (Aa _)).2.2 j O
   . rw[show p.length-(q.length-1)=0 from by omega,JJ];exact J3 (by dsimp only;omega)
def XR(p q:List Rat):List Rat:=Jd (EJ p q)
def YA(p q:List Rat):List Rat:=Jd (EJ p (Yr (-1) q))
def JB(p q:List Rat):List Rat:=Jd (Ew p q)
def Jc(p:List Rat):List Rat:=Jd (Ik p)
theorem Il(p q:List Rat):Jd (XR p q)=XR p q:=Yf _
theorem Xy(p q:List Rat):Jd (YA p q)=YA p q:=Yf _
theorem YJ(p q:List Rat):Jd (JB p q)=JB p q:=Yf _
theorem JP(p:List Rat):Jd (Jc p)=Jc p:=Yf _
theorem Xl(p q:List Rat)(x:Rat):ev (XR p q) x=ev p x+ev q x:=by unfold XR;rw[X3,ID]
theorem Xp(p q:List Rat)(x:Rat):ev (YA p q) x=ev p x-ev q x:=by unfold YA;rw[X3,ID,XQ];grind
theorem Jk(p q:List Rat)(x:Rat):ev (JB p q) x=ev p x*ev q x:=by unfold JB;rw[X3,OM]
theorem Ko(p:List Rat)(x:Rat):ev (Jc p) x=dv p x:=by unfold Jc;rw[X3,Vj]
theorem Q8(p q:List Rat)(i:Nat):cf (XR p q) i=cf p i+cf q i:=by unfold XR;rw[J1,XP]
theorem Le(p q:List Rat)(i:Nat):cf (YA p q) i=cf p i-cf q i:=by unfold YA;rw[J1,XP,Xx];grind
theorem Vo(p q:List Rat):(EJ p q).length=max p.length q.length:=by
 induction p generalizing q with
 |nil=>rw[EJ];simp
 |cons c t a=>
  cases q with
  |nil=>rw[Vk];simp
  |cons d s=>rw[EJ,Ai,a,Ai,Ai];omega
theorem Vp(p q:List Rat):(XR p q).length<=max p.length q.length:=by
 have:=JY (EJ p q);rw[Vo]at this;exact this
theorem GA(hp:Jd p=p)(hq:Jd q=q)(h:∀x,ev p x=ev q x):p=q:=by rw[<-hp,<-hq];exact Ld h
theorem Vq(p q:List Rat):Jc (JB p q)=XR (JB (Jc p) q) (JB p (Jc q)):=by
 refine GA (JP _) (Il _ _) λx=>?_;rw[Ko,Xl,Jk,Jk,Ko,Ko,<-Ve];exact QX (λi=>by unfold JB;rw[J1]) x
theorem Xh(a b:Rat):a<=b\/b<=a:=Rat.le_total
theorem Xq{a b:Rat}(c:0<a)(d:0<b):0<a/b:=by
 have e:a/b*b=a:=Ar (by grind);rcases Xh (a/b) 0 with h|h
 . have:=Rat.mul_nonneg (a:=-(a/b)) (b:=b) (by grind) (by grind);grind
 . rcases Rat.le_iff_lt_or_eq.1 h with h|h
   . exact h
   . rw[<-h]at e;grind
theorem Vr{U V:Rat}(a:-U<=u)(b:u<=U)(c:-V<=v)(d:v<=V):-(U*V)<=u*v/\u*v<=U*V:=by
 have e:=Rat.mul_nonneg (a:=U-u) (b:=V+v) (by grind) (by grind);have f:=Rat.mul_nonneg (a:=U+u) (b:=V-v) (by grind) (by grind);have g:=Rat.mul_nonneg (a:=U-u) (b:=V-v) (by grind) (by grind);have i:=Rat.mul_nonneg (a:=U+u) (b:=V+v) (by grind) (by grind);constructor<;>grind
def Wi(K u:Rat):Prop:=-K<=u/\u<=K
theorem Wi.mul(h:Wi K u)(a:Wi L v):Wi (K*L) (u*v):=Vr h.1 h.2 a.1 a.2
theorem Wi.add(h:Wi K u)(a:Wi L v):Wi (K+L) (u+v):=by have:=h.1;have:=h.2;have:=a.1;have:=a.2;constructor<;>grind
theorem Wi.mono(h:Wi K u)(hl:K<=L):Wi L u:=by have:=h.1;have:=h.2;constructor<;>grind
theorem OR(c:Rat)(p:List Rat)(x:Rat):ev (c::p) x=c+x*ev p x:=rfl
theorem Lf(c:Rat):∃K,0<K/\Wi K c:=by
 rcases Xh 0 c with h|h
 . exact⟨c+1,by grind,by constructor<;>grind⟩
 . exact⟨-c+1,by grind,by constructor<;>grind⟩
theorem GW(p:List Rat)(b:0<=B):∃K,0<K/\∀x,Wi B x->Wi K (ev p x):=by
 induction p with
 |nil=>exact⟨1,DO,λx _=>⟨by simp[ev];grind,by simp[ev];grind⟩⟩
 |cons c p f=>
  obtain⟨K,d,h⟩:=f;obtain⟨C,g,e⟩:=Lf c;have:=Rat.mul_nonneg b (Rat.le_of_lt d);exact⟨C+B*K,by grind,λx a=>e.add (a.mul (h x a))⟩
theorem Vs(p:List Rat)(a:0<=B):∃K,0<K/\∀x y,Wi B x->Wi B y->x<=y->Wi (K*(y-x)) (ev p x-ev p y):=by
 induction p with
 |nil=>exact⟨1,DO,λx y _ _ d=>⟨by simp[ev];grind,by simp[ev];grind⟩⟩
 |cons c p l=>
  obtain⟨K,j,h⟩:=l;obtain⟨C,m,k⟩:=GW p a;refine⟨C+B*K+1,by have:=Rat.mul_nonneg a (Rat.le_of_lt j);grind,λx y b f d=>?_⟩;have g:Wi (y-x) (x-y):=⟨by grind,by grind⟩;have i:=(g.mul (k x b)).add (f.mul (h x y b f d));have e:ev (c::p) x-ev (c::p) y=(x-y)*ev p x+y*(ev p x-ev p y):=by rw[OR,OR];grind
  rw[e];refine i.mono ?_;grind
def Sh(B:Rat)(P:Rat->Rat->Prop):Prop:=∃d,0<d/\∀x y,Wi B x->Wi B y->x<=y->y-x<=d->P x y
section
variable {B:Rat} {P Q:Rat->Rat->Prop}
theorem Sh.and(h:Sh B P)(f:Sh B Q):Sh B λx y=>P x y/\Q x y:=by
 obtain⟨d,d0,h⟩:=h;obtain⟨e,g,f⟩:=f;rcases Xh d e with i|i
 . exact⟨d,d0,λx y a b c l=>⟨h x y a b c l,f x y a b c (by grind)⟩⟩
 . exact⟨e,g,λx y a b c l=>⟨h x y a b c (by grind),f x y a b c l⟩⟩
theorem Sh.mono(h:Sh B P)(e:∀x y,Wi B x->Wi B y->x<=y->P x y->Q x y):Sh B Q:=by
 obtain⟨d,d0,h⟩:=h;exact⟨d,d0,λx y a b c l=>e x y a b c (h x y a b c l)⟩
theorem Sh.all(h:∀x y,Wi B x->Wi B y->x<=y->P x y):Sh B P:=⟨1,DO,λx y a b c _=>h x y a b c⟩
end
def EG(p:List Rat)(x y:Rat):Prop:=0<ev p x*ev p y
theorem Kp(p:List Rat){B e:Rat}(n:0<=B)(o:0<e):Sh B λx y=>¬EG p x y->Wi e (ev p x)/\Wi e (ev p y):=by
 obtain⟨K,j,h⟩:=Vs p n;refine⟨e/K,Xq o j,λx y a b c l q=>?_⟩;have k:=h x y a b c;have m:K*(y-x)<=e:=by
  have:=Rat.mul_le_mul_of_nonneg_left l (Rat.le_of_lt j);have r:K*(e/K)=e:=by rw[CL,Ar (by grind)]
  grind
 have i:=k.mono m;have u:ev p x*ev p y<=0:=Rat.not_lt.1 q;have s:=i.1;have t:=i.2;rcases Xh 0 (ev p x)with f|f<;>rcases Xh 0 (ev p y)with g|g
 . rcases Rat.le_iff_lt_or_eq.1 f with d|d
   . rcases Rat.le_iff_lt_or_eq.1 g with q2|q2
     . have:=Rat.mul_pos d q2;grind
     . constructor<;>constructor<;>grind
   . constructor<;>constructor<;>grind
 . constructor<;>constructor<;>grind
 . constructor<;>constructor<;>grind
 . rcases Rat.le_iff_lt_or_eq.1 f with d|d
   . rcases Rat.le_iff_lt_or_eq.1 g with q2|q2
     . have:=Rat.mul_pos (a:=- ev p x) (b:=- ev p y) (by grind) (by grind);grind
     . constructor<;>constructor<;>grind
   . constructor<;>constructor<;>grind
end
section
def Ey:Rat->List Rat->Nat
 |_,[]=>0
 |a,b::l=>if b=0 then Ey a l else(if a*b<0 then 1 else 0)+Ey b l
def Dl(l:List Rat):Nat:=Ey 0 l
def XB(l:List (List Rat))(x:Rat):List Rat:=l.map λp=>ev p x
variable{a b:Rat}
theorem Yu(p:List Rat)(l:List (List Rat))(x:Rat):XB (p::l) x=ev p x::XB l x:=rfl
theorem Vt(h:a<0)(c:0<=b):a*b<=0:=by
 have:=Rat.mul_nonneg (a:=-a) (b:=b) (by grind) c;grind
theorem Q9(h:a<0)(c:0<=b)(d:0<a*b):False:=by have:=Vt h c;grind
theorem OS{c d:Rat}(h:0<a*c)(j:0<b*d):a*b<0↔c*d<0:=by
 have g:0<(a*b)*(c*d):=by have:=Rat.mul_pos h j;grind
 constructor
 . intro i;rcases Xh 0 (c*d)with e|e
   . exact(Q9 i e g).elim
   . rcases Rat.le_iff_lt_or_eq.1 e with f|f
     . exact f
     . rw[f]at g;grind
 . intro i;rcases Xh 0 (a*b)with e|e
   . exact(Q9 i e (by rw[CL];exact g)).elim
   . rcases Rat.le_iff_lt_or_eq.1 e with f|f
     . exact f
     . rw[f]at g;grind
theorem XX(h:0<a*b):a≠0/\b≠0:=⟨λe=>by rw[e]at h;grind,λe=>by rw[e]at h;grind⟩
theorem Vu(h:a*b<0):a≠0/\b≠0:=⟨λe=>by rw[e]at h;grind,λe=>by rw[e]at h;grind⟩
theorem Hp(h:b≠0)(l:List Rat):Ey a (b::l)=(if a*b<0 then 1 else 0)+Ey b l:=by
 rw[Ey,BB h]
theorem RA{g h:Rat}(i:a*h<0)(l:List Rat):Ey a (g::h::l)=1+Ey h l:=by
 obtain⟨m,f⟩:=Vu i;by_cases d:g=0
 . rw[Ey,BC d,Hp f,BC i]
 . rw[Hp d,Hp f];have j:0<g*g:=by
    rcases Xh 0 g with e|e
    . rcases Rat.le_iff_lt_or_eq.1 e with c|c
      . exact Rat.mul_pos c c
      . exact absurd c.symm d
    . rcases Rat.le_iff_lt_or_eq.1 e with c|c
      . have:=Rat.mul_pos (a:=-g) (b:=-g) (by grind) (by grind);grind
      . exact absurd c d
   have k:(a*g)*(g*h)<0:=by
    have:=Rat.mul_pos (a:=-(a*h)) (b:=g*g) (by grind) j;grind
   by_cases p:a*g<0
   . have:¬g*h<0:=λq=>by
      have:=Rat.mul_pos (a:=-(a*g)) (b:=-(g*h)) (by grind) (by grind);grind
     rw[BC p,BB this];omega
   . have:g*h<0:=by
      rcases Xh 0 (g*h)with q|q
      . have:=Rat.mul_nonneg (a:=a*g) (b:=g*h) (Rat.not_lt.1 p) q;grind
      . rcases Rat.le_iff_lt_or_eq.1 q with q|q
        . exact q
        . rw[q]at k;grind
     rw[BB p,BC this];omega
inductive Gd(x y:Rat):List (List Rat)->Prop
 |one {f:List Rat}:EG f x y->Gd x y [f]
 |two {f g:List Rat}:EG g x y->Gd x y [f,g]
 |more {f g h:List Rat} {l:List (List Rat)}:(EG f x y\/EG g x y)->(¬EG g x y->ev f x*ev h x<0/\ev f y*ev h y<0)->Gd x y (g::h::l)->Gd x y (f::g::h::l)
section
variable {x y:Rat}
theorem Gd.adj{f g:List Rat}{l:List (List Rat)}(h:Gd x y (f::g::l)):EG f x y\/EG g x y:=by
 cases h with
 |two h=>exact Or.inr h
 |more h _ _=>exact h
theorem Gd.tail{f g:List Rat}{l:List (List Rat)}(h:Gd x y (f::g::l)):Gd x y (g::l):=by
 cases h with
 |two h=>exact Gd.one h
 |more _ _ h=>exact h
theorem Gd.same:∀(n:Nat) (l:List (List Rat)) (f:List Rat),l.length<=n->Gd x y (f::l)->EG f x y->Ey (ev f x) (XB l x)=Ey (ev f y) (XB l y):=by
 intro n;induction n with
 |zero=>
  intro l f hl _ _
  have:l=[]:=AM.1 O
  subst this;rfl
 |succ n d=>
  intro l f hl a e;match l,hl,a with
  |[],_,_=>rfl
  |g::l,hl,a=>
   by_cases b:EG g x y
   . obtain⟨j,k⟩:=XX b;rw[Yu,Yu,Hp j,Hp k,d l g (by simp at hl;omega) a.tail b];have:=OS e b;by_cases p:ev f x*ev g x<0
     . rw[BC p,BC (this.1 p)]
     . rw[BB p,BB λq=>p (this.2 q)]
   . match l,hl,a with
     |[],_,a=>cases a with|two h=>exact absurd h b
     |h::l,hl,a=>
      have i:EG h x y:=(a.tail.adj).resolve_left b;have c:ev f x*ev h x<0/\ev f y*ev h y<0:=by
       cases a with|more _ c _=>exact c b
      rw[Yu,Yu,Yu,Yu,RA c.1,RA c.2,d l h (by simp at hl;omega) a.tail.tail i]
variable{a:Rat}
theorem OT(h:a≠0)(l:List Rat):Dl (a::l)=Ey a l:=by
 unfold Dl;rw[Hp h,Cz,BB DO];omega
theorem MT{b:Rat}(h:b≠0)(l:List Rat):Dl (a::b::l)=(if a*b<0 then 1 else 0)+Ey b l:=by
 by_cases c:a=0
 . rw[Dl,Ey,BC c,c,Cz,Hp h,Cz]
 . rw[OT c,Hp h]
theorem Gd.stay{f:List Rat}{l:List (List Rat)}(h:Gd x y (f::l))(a:EG f x y):Dl (XB (f::l) x)=Dl (XB (f::l) y):=by
 obtain⟨b,c⟩:=XX a;rw[Yu,Yu,OT b,OT c];exact h.same _ l f (Aa _) a
theorem Gd.both{f g:List Rat}{l m:List (List Rat)}(h:Gd x y (f::l))(c:Gd x y (g::m)){k:Rat}(B:k≠0)(w:∀x,ev f x=k*ev g x)
(v:¬EG g x y->∀f1 l1 d o,l=f1::l1->m=d::o->0<k*ev f1 x*ev d x/\0<k*ev f1 y*ev d y):
 Dl (XB (f::l) x)+Dl (XB (g::m) y)=Dl (XB (f::l) y)+Dl (XB (g::m) x):=by
 have H:0<k*k:=by
  rcases Xh 0 k with i|i
  . rcases Rat.le_iff_lt_or_eq.1 i with c|c
    . exact Rat.mul_pos c c
    . exact absurd c.symm B
  . rcases Rat.le_iff_lt_or_eq.1 i with c|c
    . have:=Rat.mul_pos (a:=-k) (b:=-k) (by grind) (by grind);grind
    . exact absurd c B
 have A:ev f x*ev f y=(k*k)*(ev g x*ev g y):=by rw[w,w];grind
 by_cases j:EG g x y
 . have n:EG f x y:=by unfold EG at *;rw[A];exact Rat.mul_pos H j
   have:=h.stay n;have:=c.stay j;omega
 . have n:¬EG f x y:=λq=>j (by
    unfold EG at *;rw[A]at q;rcases Xh (ev g x*ev g y) 0 with r|r
    . have:=Rat.mul_nonneg (a:=k*k) (b:=-(ev g x*ev g y)) (by grind) (by grind);grind
    . rcases Rat.le_iff_lt_or_eq.1 r with r|r
      . exact r
      . rw[<-r]at q;grind)
   match l,m,h,c,v j with
   |[],_,h,_,_=>cases h with|one h=>exact absurd h n
   |_::_,[],_,c,_=>cases c with|one h=>exact absurd h j
   |f1::l1,d::o,h,c,v=>
    obtain⟨N,P⟩:=v f1 l1 d o rfl rfl;have C:=(h.adj).resolve_left n;have D:=(c.adj).resolve_left j;obtain⟨I,K⟩:=XX C;obtain⟨L,M⟩:=XX D;rw[Yu,Yu,Yu,Yu,Yu,Yu,Yu,Yu,MT I,MT K,MT L,MT M,h.tail.same _ l1 f1 (Aa _) C,c.tail.same _ o d (Aa _) D];have t:∀z,0<k*ev f1 z*ev d z->(ev f z*ev f1 z<0↔ev g z*ev d z<0):=λz G=>by
     have E:ev f z*ev f1 z=ev g z*(k*ev f1 z):=by rw[w];grind
     rw[E];by_cases u:ev g z=0
     . rw[u];grind
     . have F:0<ev g z*ev g z:=by
        rcases Xh 0 (ev g z)with i|i
        . rcases Rat.le_iff_lt_or_eq.1 i with c|c
          . exact Rat.mul_pos c c
          . exact absurd c.symm u
        . rcases Rat.le_iff_lt_or_eq.1 i with c|c
          . have:=Rat.mul_pos (a:=-(ev g z)) (b:=-(ev g z)) (by grind) (by grind);grind
          . exact absurd c u
       exact OS F G
    have p:=t x N;have s:=t y P;by_cases e:ev g x*ev d x<0<;>by_cases q2:ev g y*ev d y<0
    . rw[BC e,BC q2,BC (p.2 e),BC (s.2 q2)]
    . rw[BC e,BB q2,BC (p.2 e),BB λq=>q2 (s.1 q)];omega
    . rw[BB e,BC q2,BB λq=>e (p.1 q),BC (s.2 q2)];omega
    . rw[BB e,BB q2,BB λq=>e (p.1 q),BB λq=>q2 (s.1 q)]
end
end
inductive StC:List (List Rat)->Prop
 |one {f:List Rat} {c:Rat}:c≠0->(∀x,ev f x=c)->StC [f]
 |two {f g:List Rat} {c:Rat}:c≠0->(∀x,ev g x=c)->StC [f,g]
 |more {f g h q:List Rat} {l:List (List Rat)} {a c:Rat}:0<a->0<c->(∀x,a*ev f x=ev q x*ev g x-c*ev h x)->StC (g::h::l)->StC (f::g::h::l)
variable{p:List Rat}{B U V a e i u v w y:Rat}
theorem Kq:(0:Rat)<1/4:=by grind
theorem JS(c x:Rat):ev [c] x=c:=by simp[ev];grind
theorem Lg{f:List Rat}{c:Rat}(g:c≠0)(h:∀x,ev f x=c)(x y:Rat):EG f x y:=by
 unfold EG;rw[h,h];rcases Xh 0 c with e|e
 . rcases Rat.le_iff_lt_or_eq.1 e with d|d
   . exact Rat.mul_pos d d
   . exact absurd d.symm g
 . rcases Rat.le_iff_lt_or_eq.1 e with d|d
   . have:=Rat.mul_pos (a:=-c) (b:=-c) (by grind) (by grind);grind
   . exact absurd d g
theorem StC.cop{f g:List Rat}{l:List (List Rat)}(h:StC (f::g::l)):∃u v:List Rat,∀x,ev u x*ev f x+ev v x*ev g x=1:=by
 match l,h with
 |[],h=>
  cases h with
  |two d b=>
   rename_i c;refine⟨[],[1/c],λx=>?_⟩;rw[b,JS]
   have:1/c*c=1:=Ar d
   simp[ev];grind
 |h::l,n=>
  cases n with
  |more s d b o=>
   rename_i q a c;obtain⟨u,v,p⟩:=StC.cop o;have e:c≠0:=by grind
   refine⟨JB [-(a/c)] v,XR u (JB [1/c] (JB v q)),λx=>?_⟩;rw[Jk,Xl,Jk,Jk,JS,JS];have i:=p x;have r:=b x;have j:1/c*c=1:=Ar e;have k:a/c=1/c*a:=by rw[F0,F0,CW,CL]
   rw[k];have m:ev h x=1/c*(ev q x*ev g x-a*ev f x):=by
    have:ev h x=1/c*(c*ev h x):=by rw[<-Rat.mul_assoc,j,CW]
    rw[this];congr 1;grind
   rw[m]at i;grind
termination_by l.length
theorem RB{f g:Rat}(h:u*f+v*g=1)(b:Wi U u)(a:Wi e f)(c:U*e<=1/4):3/4<=v*g:=by
 have:=(b.mul a).2;grind
theorem StC.gd{l:List (List Rat)}(h:StC l)(j:0<=B):Sh B λx y=>Gd x y l:=by
 induction h with
 |one n m=>exact Sh.all λx y _ _ _=>Gd.one (Lg n m x y)
 |two n m=>exact Sh.all λx y _ _ _=>Gd.two (Lg n m x y)
 |more ha n m k A=>
  rename_i f g h q l a c;obtain⟨u,v,ai⟩:=(StC.more ha n m k).cop;obtain⟨u2,D,aj⟩:=k.cop;obtain⟨U1,P,ad⟩:=GW u j;obtain⟨U2,R,ae⟩:=GW v j;obtain⟨U3,S,af⟩:=GW u2 j;obtain⟨i,C,ah⟩:=GW D j;obtain⟨Q,T,X⟩:=GW q j;have d:∀ {r K:Rat},0<r->0<K->K*(r/K)=r:=λ_ hK=>by rw[CL,Ar (by grind)]
  have E:=(((Kp f j (Xq Kq P)).and (Kp g j (Xq Kq R))).and ((Kp g j (Xq Kq S)).and (Kp g j (Xq (Xq (show(0:Rat)<c/2 by grind) C) T)))).and A;refine E.mono λx y t hy ak ⟨⟨⟨tf,tg⟩,V,W⟩,A⟩=>?_;refine Gd.more ?_ (λk=>?_) A
  . by_cases U:EG f x y
    . exact Or.inl U
    . by_cases sg:EG g x y
      . exact Or.inr sg
      . exfalso
        have G:=RB (ai x) (ad x t) (tf U).1 (by rw[d Kq P];exact Rat.le_refl);have o:=((ae x t).mul (tg sg).1).2;rw[d Kq R]at o;grind
  . have N:∀z,Wi B z->Wi (1/4/U3) (ev g z)->Wi (c/2/i/Q) (ev g z)->ev f z*ev h z<0:=λz w w1 w2=>by
     have G:=RB (aj z) (af z w) w1 (by rw[d Kq S];exact Rat.le_refl);have o:=(X z w).mul w2;rw[d (Xq (show(0:Rat)<c/2 by grind) C) T]at o;have H:=m z;have I:=ah z w;have L:Wi (c/2) (i*(ev q z*ev g z)):=by
      have:=(show Wi i i from⟨by grind,by grind⟩).mul o;rwa[d (show(0:Rat)<c/2 by grind) C]at this
     have F:ev h z≠0:=λe=>by rw[e]at G;grind
     rcases Xh 0 (ev h z)with s|s
     . have s:0<ev h z:=by
        rcases Rat.le_iff_lt_or_eq.1 s with s|s
        . exact s
        . exact absurd s.symm F
       have h6:3/4<=i*ev h z:=by
        have:=Rat.mul_nonneg (a:=i-ev D z) (b:=ev h z) (by have:=I.2;grind) (by grind);grind
       have p:i*(a*ev f z)<0:=by
        rw[H];have:=Rat.mul_nonneg (a:=c) (b:=i*ev h z-3/4) (by grind) (by grind);have:=L.2;grind
       have M:ev f z<0:=by
        rcases Xh 0 (ev f z)with r|r
        . have:=Rat.mul_nonneg (a:=i*a) (b:=ev f z) (Rat.mul_nonneg (by grind) (by grind)) r;grind
        . rcases Rat.le_iff_lt_or_eq.1 r with r|r
          . exact r
          . rw[r]at p;grind
       have:=Rat.mul_pos (a:=-ev f z) (b:=ev h z) (by grind) s;grind
     . have s:ev h z<0:=by
        rcases Rat.le_iff_lt_or_eq.1 s with s|s
        . exact s
        . exact absurd s F
       have h6:i*ev h z<=-(3/4):=by
        have:=Rat.mul_nonneg (a:=i+ev D z) (b:=-ev h z) (by have:=I.1;grind) (by grind);grind
       have p:0<i*(a*ev f z):=by
        rw[H];have:=Rat.mul_nonneg (a:=c) (b:=-(i*ev h z)-3/4) (by grind) (by grind);have:=L.1;grind
       have M:0<ev f z:=by
        rcases Xh (ev f z) 0 with r|r
        . have:=Rat.mul_nonneg (a:=i*a) (b:=-ev f z) (Rat.mul_nonneg (by grind) (by grind)) (by grind);grind
        . rcases Rat.le_iff_lt_or_eq.1 r with r|r
          . exact r
          . rw[<-r]at p;grind
       have:=Rat.mul_pos (a:=ev f z) (b:=-ev h z) M (by grind);grind
    exact⟨N x t (V k).1 (W k).1,N y hy (V k).2 (W k).2⟩
theorem steps{d:Rat}(i:0<d)(a b:Rat):∃n:Nat,b-a<=(n:Rat)*d:=by
 obtain⟨q,hq⟩:=ex ((b-a)/d);refine⟨q.ceil.toNat,?_⟩;have e:b-a=q*d:=by rw[<-hq,Ar (by grind)]
 rw[e];have g:q<=(q.ceil.toNat:Rat):=by
  have c:q<=(q.ceil:Rat):=Rat.le_ceil;have f:(q.ceil:Rat)<=((q.ceil.toNat:Int):Rat):=Rat.intCast_le_intCast.2 (Int.self_le_toNat _);exact Rat.le_trans c f
 have:=Rat.mul_nonneg (a:=(q.ceil.toNat:Rat)-q) (b:=d) (by grind) (by grind);grind
theorem glue{F G:Rat->Nat}(h:Sh B λx y=>F x+G y=F y+G x){b:Rat}(c:Wi B a)(j:Wi B b)(f:a<=b):F a+G b=F b+G a:=by
 obtain⟨d,d0,h⟩:=h;obtain⟨n,m⟩:=steps d0 a b
 have:∀(n:Nat) (a:Rat),Wi B a->a<=b->b-a<=(n:Rat)*d->F a+G b=F b+G a:=by
  intro n;induction n with
  |zero=>
   intro a c f g;have e:a=b:=by
    have:((0:Nat):Rat)=0:=rfl
    rw[this]at g;grind
   rw[e]
  |succ n o=>
   intro a c f g;have l:((n+1:Nat):Rat)=(n:Rat)+1:=by rw[Rat.natCast_add];rfl
   rw[l]at g;rcases Xh (b-a) d with i|i
   . exact h a b c j f i
   . have k:Wi B (a+d):=⟨by have:=c.1;grind,by have:=j.2;grind⟩;have p:=h a (a+d) c k (by grind) (by grind);have q:=o (a+d) k (by grind) (by grind);omega
 exact this n a c f m
theorem KD(a:Rat):0<=a*a:=by
 rcases Xh 0 a with h|h
 . exact Rat.mul_nonneg h h
 . have:=Rat.mul_nonneg (a:=-a) (b:=-a) (by grind) (by grind);grind
theorem RC(h:Wi V v):v*v<=V*V:=by
 have:=Rat.mul_nonneg (a:=V-v) (b:=V+v) (by have:=h.2;grind) (by have:=h.1;grind);grind
theorem Vv{f c g d:Rat}(m:Wi U u)(n:Wi V v)(p:Wi c y)(j:Wi e a)(l:Wi g i)(q:Wi d f)(C:u*w+v*y=1)(o:w=a*i)
(r:U*(e*g)<=1/4)(s:(V*V)*(e*(c*d))<=1/16):1/2<=(V*V)*(y*(y-a*f)):=by
 have k:=(m.mul (j.mul l)).2;rw[<-o]at k;have t:3/4<=v*y:=by grind
 have x:=Rat.mul_nonneg (a:=V*V-v*v) (b:=y*y) (by have:=RC n;grind) (KD y);have z:=Rat.mul_nonneg (a:=v*y-3/4) (b:=v*y+3/4) (by grind) (by grind);have A:=(j.mul (p.mul q)).2;have B:=Rat.mul_nonneg (a:=V*V) (b:=e*(c*d)-a*(y*f)) (KD V) (by grind);grind
theorem Vw{j c f A A1 d g n:Rat}(H:Wi U u)(s:Wi V v)(r:Wi A a)(F:Wi A1 i)(p:Wi e j)(k:Wi d c)(x:Wi g f)(ad:u*w+v*y=1)(I:w=a*j)
(m:y=i*j+a*(c+f))(hn:0<n)(hp:n<=f*c)(K:U*(A*e)<=1/4)(L:V*(A1*e)<=1/4)
(B:((V*(d+g))*(V*(d+g)))*((A1*e)*(A*(d+d+g)))<=n/8):n/8<=((V*(d+g))*(V*(d+g)))*(y*(i*j+a*c)):=by
 obtain⟨M,E⟩:=ex (V*(d+g));have l:=s.mul (k.add x);rw[E]at l B ⊢;have C:=(H.mul (r.mul p)).2;rw[<-I]at C;obtain⟨t,G⟩:=ex (i*j);have o:=F.mul p;rw[G]at o m ⊢;have T:=(s.mul o).2;have D:v*y=v*t+a*(v*(c+f)):=by rw[m];grind
 obtain⟨q,hq⟩:=ex (v*(c+f));rw[hq]at D l;have W:1/2<=a*q:=by grind
 have X:=Rat.mul_nonneg (a:=a*a) (b:=M*M-q*q) (KD a) (by have:=RC l;grind);have h7:=Rat.mul_nonneg (a:=a*q-1/2) (b:=a*q+1/2) (by grind) (by grind);have h8:1/4<=(a*a)*(M*M):=by grind
 have h9:=Rat.mul_nonneg (a:=(a*a)*(M*M)-1/4) (b:=n) (by grind) (by grind);have N:=Rat.mul_nonneg (a:=(a*a)*(M*M)) (b:=f*c-n) (by grind) (by grind);have P:=Rat.mul_nonneg (a:=(a*a)*(M*M)) (b:=c*c) (by grind) (KD c);have Q:=Rat.mul_nonneg (a:=M*M) (b:=t*t) (KD M) (KD t);have R:=(o.mul (r.mul ((k.add k).add x))).1;have S:=Rat.mul_nonneg (a:=M*M) (b:=t*(a*(c+c+f))+(A1*e)*(A*(d+d+g))) (KD M) (by grind);have z:y*(t+a*c)=t*t+t*(a*(c+c+f))+(a*a)*(c*c)+(a*a)*(f*c):=by rw[m];grind
 rw[z];grind
theorem small{K r:Rat}(d:0<=K)(c:0<r):∃e,0<e/\∀f,f<=e->K*f<=r:=by
 refine⟨r/(K+1),Xq c (by grind),λf k=>?_⟩;have g:r/(K+1)*(K+1)=r:=Ar (by grind);have i:=Rat.mul_nonneg (a:=K) (b:=r/(K+1)-f) d (by grind);have j:=Xq c (show(0:Rat)<K+1 by grind);grind
theorem RD{s:Rat}(C:s*s=1):∀(p:List Rat),Jd p=p->p≠[]->∃B e:Rat,0<B/\0<e/\∀x,B<=x->e<=s^(p.length-1)*cf p (p.length-1)*ev p (s*x):=by
 intro p;induction p with
 |nil=>intro _ h;exact absurd rfl h
 |cons c t o=>
  intro tp p0;by_cases d:t=[]
  . subst d;have c0:c≠0:=by
     have:=Js tp p0;simpa[cf]using this
    refine⟨1,c*c,DO,?_,λx _=>?_⟩
    . have:=Lg (f:=[c]) c0 (λx=>JS c x) 0 0;unfold EG at this;rwa[JS]at this
    . rw[JS];simp[cf]
  . have q:Jd t=t:=by
     refine QU (Or.inr ?_);have:=Js tp p0;have hl:=Ae.2 d;rw[Ai,show t.length+1-1=(t.length-1)+1 by omega,Ya]at this;exact this
    obtain⟨B,e,A,g,h⟩:=o q d;have hl:=Ae.2 d;obtain⟨n,i⟩:∃n,t.length=n+1:=⟨t.length-1,O⟩;have m:cf (c::t) ((c::t).length-1)=cf t n:=by
     rw[Ai,i,show n+1+1-1=n+1 by omega,Ya]
    rw[m,Ai,i,show n+1+1-1=n+1 by omega];rw[i,show n+1-1=n by omega]at h;generalize cf t n=k at *;obtain⟨D,hD,l⟩:=Lf (s^(n+1)*k*c);refine⟨B+(D+e)/e,e,?_,g,λx E=>?_⟩
    . have:=Xq (a:=D+e) (b:=e) (by grind) g;grind
    . have r:=Xq (a:=D+e) (b:=e) (by grind) g;have u:=h x (by grind);have v:(D+e)/e*e=D+e:=Ar (by grind);rw[OR];have j:s^(n+1)*k*(c+s*x*ev t (s*x))=s^(n+1)*k*c+x*(s^n*k*ev t (s*x)):=by
       rw[Rat.pow_succ];grind
      rw[j];have w:=Rat.mul_nonneg (a:=x) (b:=s^n*k*ev t (s*x)-e) (by grind) (by grind);have y:=Rat.mul_nonneg (a:=x-(D+e)/e) (b:=e) (by grind) (by grind);have z:=l.1;grind
theorem Vx(tp:Jd p=p)(p0:p≠[]):∃B,0<B/\∀x,B<=x->0<cf p (p.length-1)*ev p x:=by
 obtain⟨B,e,b,i,c⟩:=RD (s:=1) (by grind) p tp p0;refine⟨B,b,λx f=>?_⟩;have d:=c x f;have a:∀n:Nat,(1:Rat)^n=1:=λn=>by
  induction n with
  |zero=>rfl
  |succ n g=>rw[Rat.pow_succ,g];grind
 rw[a,CW,CW]at d;grind
theorem Vy(tp:Jd p=p)(p0:p≠[]):∃B,0<B/\∀x,x<=-B->0<(-1)^(p.length-1)*cf p (p.length-1)*ev p x:=by
 obtain⟨B,e,a,d,b⟩:=RD (s:=-1) (by grind) p tp p0;refine⟨B,a,λx f=>?_⟩;have c:=b (-x) (by grind);rw[show(-1:Rat)*-x=x by grind]at c;grind
theorem RE:∀(l m:List Rat) (a b:Rat),l.length=m.length->(∀i (k:i<l.length) (e:i<m.length),0<l[i]*m[i])->(0<a*b\/(a=0/\b=0))->Ey a l=Ey b m:=by
 intro l;induction l with
 |nil=>intro m a b h _ _;cases m with|nil=>rfl|cons=>simp at h
 |cons c l n=>
  intro m a b h e f;cases m with
  |nil=>simp at h
  |cons d m=>
   have g:0<c*d:=e 0 Z Z;obtain⟨o,p⟩:=XX g;have j:=n m c d (by simpa using h) (λi k s=>e (i+1) si si) (Or.inl g);rw[Hp o,Hp p,j];rcases f with f|⟨rfl,rfl⟩
   . have:=OS f g;by_cases q:a*c<0
     . rw[BC q,BC (this.1 q)]
     . rw[BB q,BB λr=>q (this.2 r)]
   . rw[Cz,Cz]

