import Derived.Test.YtakpoihdghihmaaGreatDoorQ00
set_option maxRecDepth 100000
set_option maxHeartbeats 16000000
namespace Go.Proofs.YtakpoihdghihmaaGreatDoor
section
theorem BH:type_of% @if_pos:=@if_pos
theorem BB:type_of% @if_neg:=@if_neg
def cf(p:List Rat)(i:Nat):Rat:=p[i]?.getD 0
variable{p q:List Rat}{i k n:Nat}{f:Nat->Rat}{B K L u v:Rat}
theorem YG(i:Nat):cf [] i=0:=by simp[cf]
theorem YL(c:Rat)(t:List Rat):cf (c::t) 0=c:=by simp[cf]
theorem J1(c:Rat)(t:List Rat)(i:Nat):cf (c::t) (i+1)=cf t i:=by simp[cf]
theorem Yi(h:p.length<=i):cf p i=0:=by simp[cf,List.getElem?_eq_none h]
theorem Rg(h:i<p.length):cf p i=p[i]:=by simp[cf,List.getElem?_eq_getElem h]
theorem XK(p:List Rat)(k:Nat)(c:Rat)(i:Nat)(a:k<p.length):cf (p.set k c) i=if i=k then c else cf p i:=by
 unfold cf;by_cases h:i=k
 . subst h;rw[BH rfl,A9 a];rfl
 . rw[BB h,AR λe=>h e.symm]
theorem JW(n:Nat)(i:Nat):cf (List.replicate n 0) i=0:=by
 unfold cf;rw[List.getElem?_replicate];split<;>rfl
theorem Lg(n:Nat)(f:Nat->Rat)(i:Nat):cf ((List.range n).map f) i=if i<n then f i else 0:=by
 unfold cf;rw[Fa];by_cases h:i<n
 . rw[List.getElem?_range h,BH h];rfl
 . rw[AO si,BB h];rfl
theorem Lh(p:List Rat)(n i:Nat):cf (p.take n) i=if i<n then cf p i else 0:=by
 unfold cf;rw[Fm];split<;>rfl
def Jd:List Rat->List Rat
 |[]=>[]
 |c::t=>match Jd t with
  |[]=>if c=0 then []else [c]
  |d::s=>c::d::s
theorem Yd(p:List Rat)(i:Nat):cf (Jd p) i=cf p i:=by
 induction p generalizing i with
 |nil=>rfl
 |cons c t b=>
  have a:=b;rw[Jd];split
  . rename_i h;rw[h]at a;cases i with
    |zero=>split<;>simp_all [cf]
    |succ i=>
     rw[J1,<-a i,YG];split
     . rfl
     . rw[J1,YG]
  . rename_i d s h;rw[<-h];cases i with
    |zero=>rfl
    |succ i=>rw[J1,J1,a]
theorem Li(h:∀i,cf p i=0):Jd p=[]:=by
 induction p with
 |nil=>rfl
 |cons c t d=>
  have a:=d (λi=>by rw[<-J1 c t i];exact h (i+1));have b:c=0:=by rw[<-YL c t];exact h 0
  rw[Jd,a];show(if c=0 then []else [c])=[];rw[BH b]
theorem X1(h:∀i,cf p i=cf q i):Jd p=Jd q:=by
 induction p generalizing q with
 |nil=>rw[Li (p:=q) λi=>by rw[<-h i,YG]];rfl
 |cons c t e=>
  cases q with
  |nil=>rw[Li (p:=c::t) λi=>by rw[h i,YG]];rfl
  |cons d s=>
   have a:c=d:=by have:=h 0;rwa[YL,YL]at this
   have b:=e (q:=s) (λi=>by have:=h (i+1);rwa[J1,J1]at this);rw[Jd,Jd,a,b]
theorem J3(p:List Rat):Jd (Jd p)=Jd p:=X1 (Yd p)
theorem Y3(p:List Rat):(Jd p).length<=p.length:=by
 induction p with
 |nil=>exact Aa _
 |cons c t a=>
  rw[Jd];split
  . split<;>simp
  . rename_i d s h;rw[h]at a;simp only[Ae]at a ⊢;omega
theorem Jt(h:Jd p=p)(f:p≠[]):cf p (p.length-1)≠0:=by
 induction p with
 |nil=>exact absurd rfl f
 |cons c t i=>
  rw[Jd]at h;split at h
  . rename_i b;split at h
    . cases h
    . rename_i a;simp only[List.cons.injEq,true_and]at h;subst h;simpa[cf]using a
  . rename_i d s b;simp only[List.cons.injEq,true_and]at h;have a:Jd t=t:=by rw[b,h]
    have g:=i a (by rw[<-h];simp);have e:(c::t).length-1=(t.length-1)+1:=by rw[<-h];simp
    rw[e,J1];exact g
theorem Nr(h:p=[]\/cf p (p.length-1)≠0):Jd p=p:=by
 induction p with
 |nil=>rfl
 |cons c t a=>
  rcases h with h|h
  . cases h
  . cases t with
    |nil=>rw[Jd];show(if c=0 then []else [c])=[c];rw[BB (by simpa[cf]using h)]
    |cons d s=>
     have e:(c::d::s).length-1=((d::s).length-1)+1:=Z
     rw[e,J1]at h;rw[Jd,a (Or.inr h)]
theorem Rh(d:n<=p.length)(a:n=0\/cf p (n-1)≠0)(c:∀j,n<=j->cf p j=0):Jd p=p.take n:=by
 have e:Jd p=Jd (p.take n):=X1 λi=>by
  rw[Lh];split
  . rfl
  . exact c i Y
 rw[e];refine Nr ?_;rcases a with a|a
 . left;rw[a];rfl
 . by_cases b:n=0
   . left;rw[b];rfl
   . right
     rw[Al,CN d,Lh,BH Y];exact a
theorem Lj(h:∀j,n<=j->cf p j=0):(Jd p).length<=n:=by
 rcases A5 n (Jd p).length with a|a
 . have b:=Jt (J3 p) (by intro c;rw[c]at a;simp at a);rw[Yd]at b;exact absurd (h _ Y) b
 . exact a
def ev:List Rat->Rat->Rat
 |[],_=>0
 |c::t,x=>c+x*ev t x
theorem Is(h:∀i,cf p i=0)(x:Rat):ev p x=0:=by
 induction p with
 |nil=>rfl
 |cons c t d=>
  have a:=d (λi=>by rw[<-J1 c t i];exact h (i+1));have b:c=0:=by rw[<-YL c t];exact h 0
  rw[ev,a,b];grind
theorem It(h:∀i,cf p i=cf q i)(x:Rat):ev p x=ev q x:=by
 induction p generalizing q with
 |nil=>rw[Is (p:=q) λi=>by rw[<-h i,YG]];rfl
 |cons c t e=>
  cases q with
  |nil=>rw[Is (p:=c::t) λi=>by rw[h i,YG]];rfl
  |cons d s=>
   have a:c=d:=by have:=h 0;rwa[YL,YL]at this
   have b:=e (q:=s) (λi=>by have:=h (i+1);rwa[J1,J1]at this);rw[ev,ev,a,b]
theorem Xz(p:List Rat)(x:Rat):ev (Jd p) x=ev p x:=It (Yd p) x
def dv:List Rat->Rat->Rat
 |[],_=>0
 |_::t,x=>ev t x+x*dv t x
theorem Ns(h:∀i,cf p i=0)(x:Rat):dv p x=0:=by
 induction p with
 |nil=>rfl
 |cons c t b=>
  have a:∀i,cf t i=0:=λi=>by rw[<-J1 c t i];exact h (i+1)
  rw[dv,b a,Is a];grind
theorem Nt(h:∀i,cf p i=cf q i)(x:Rat):dv p x=dv q x:=by
 induction p generalizing q with
 |nil=>rw[Ns (p:=q) λi=>by rw[<-h i,YG]];rfl
 |cons c t b=>
  cases q with
  |nil=>rw[Ns (p:=c::t) λi=>by rw[h i,YG]];rfl
  |cons d s=>
   have a:∀i,cf t i=cf s i:=λi=>by have:=h (i+1);rwa[J1,J1]at this
   rw[dv,dv,b a,It a]
def GN:List Rat->Rat->List Rat
 |[],_=>[]
 |_::t,a=>match t with
  |[]=>[]
  |d::s=>ev (d::s) a::GN (d::s) a
theorem Ri(p:List Rat)(a:Rat):(GN p a).length=p.length-1:=by
 induction p with
 |nil=>rfl
 |cons c t b=>
  cases t with
  |nil=>rfl
  |cons d s=>
   rw[GN,Ae,b];simp
theorem Nu(p:List Rat)(a x:Rat):ev p x=ev p a+(x-a)*ev (GN p a) x:=by
 induction p with
 |nil=>simp[ev,GN];grind
 |cons c t b=>
  cases t with
  |nil=>simp[ev,GN];grind
  |cons d s=>
   rw[GN];generalize hq:d::s=q at *;rw[ev,ev,ev,b];grind
theorem Rj{m:Nat}(h:∀n:Nat,m<=n->ev p (n:Rat)=0)(x:Rat):ev p x=0:=by
 obtain⟨k,d⟩:=ex (p.length);induction k generalizing p m with
 |zero=>
  have:p=[]:=AB d
  rw[this];rfl
 |succ k j=>
  have c:=h m (Aa _);have e:∀n:Nat,m+1<=n->ev (GN p m) (n:Rat)=0:=λn o=>by
   have a:=Nu p (m:Rat) (n:Rat);rw[h n Y,c]at a;have f:((n:Rat)-(m:Rat))≠0:=by
    intro l;have g:(n:Rat)=(m:Rat):=by grind
    have:=Rat.natCast_inj.1 g;omega
   have i:((n:Rat)-(m:Rat))*ev (GN p m) n=0:=by grind
   rcases Cj.1 i with b|b
   . exact absurd b f
   . exact b
  have a:=j e (by rw[Ri,d];rfl);rw[Nu p (m:Rat) x,c,a];grind
theorem Rk(h:∀x,ev p x=0)(i:Nat):cf p i=0:=by
 induction p generalizing i with
 |nil=>rfl
 |cons c t l=>
  have b:c=0:=by have:=h 0;rw[ev]at this;grind
  have d:∀x,ev t x=0:=λx=>Rj (m:=1) (λn o=>by
   have e:=h (n:Rat);rw[ev,b]at e;have f:(n:Rat)≠0:=λg=>by
    have j:(n:Rat)=((0:Nat):Rat):=g;have:=Rat.natCast_inj.1 j;omega
   have k:(n:Rat)*ev t n=0:=by grind
   rcases Cj.1 k with a|a
   . exact absurd a f
   . exact a) x
  cases i with
  |zero=>rw[YL];exact b
  |succ i=>rw[J1];exact l d i
def XH:List Rat->List Rat->List Rat
 |[],q=>q
 |p,[]=>p
 |c::t,d::s=>(c+d)::XH t s
def YT(a:Rat)(p:List Rat):List Rat:=p.map λc=>c*a
def EP:List Rat->List Rat->List Rat
 |[],_=>[]
 |c::t,q=>XH (YT c q) (0::EP t q)
theorem Gc(p q:List Rat)(i:Nat):cf (XH p q) i=cf p i+cf q i:=by
 induction p generalizing q i with
 |nil=>rw[XH,YG];grind
 |cons c t a=>
  cases q with
  |nil=>
   rw[XH,YG]
   . grind
   . intro h;cases h
  |cons d s=>
   rw[XH];cases i with
   |zero=>simp[cf]
   |succ i=>rw[J1,J1,J1,a]
theorem H7(a:Rat)(p:List Rat)(i:Nat):cf (YT a p) i=cf p i*a:=by
 unfold cf YT;rw[Fa];cases p[i]? with
 |none=>simp
 |some c=>rfl
theorem XW(p q:List Rat)(x:Rat):ev (XH p q) x=ev p x+ev q x:=by
 induction p generalizing q with
 |nil=>rw[XH,ev];grind
 |cons c t a=>
  cases q with
  |nil=>
   rw[XH]
   . rw[show ev [] x=0 from rfl];grind
   . intro h;cases h
  |cons d s=>rw[XH,ev,ev,ev,a];grind
theorem Xp(a:Rat)(p:List Rat)(x:Rat):ev (YT a p) x=ev p x*a:=by
 induction p with
 |nil=>simp[YT,ev]
 |cons c t b=>
  rw[show YT a (c::t)=(c*a)::YT a t from rfl,ev,ev,b];grind
theorem Lk(p q:List Rat)(x:Rat):ev (EP p q) x=ev p x*ev q x:=by
 induction p with
 |nil=>rw[EP,ev];grind
 |cons c t a=>rw[EP,XW,Xp,ev,ev,a];grind
theorem Rl(p q:List Rat)(x:Rat):dv (XH p q) x=dv p x+dv q x:=by
 induction p generalizing q with
 |nil=>rw[XH,dv];grind
 |cons c t a=>
  cases q with
  |nil=>
   rw[XH]
   . rw[show dv [] x=0 from rfl];grind
   . intro h;cases h
  |cons d s=>rw[XH,dv,dv,dv,a,XW];grind
theorem Nv(a:Rat)(p:List Rat)(x:Rat):dv (YT a p) x=dv p x*a:=by
 induction p with
 |nil=>simp[YT,dv]
 |cons c t b=>
  rw[show YT a (c::t)=(c*a)::YT a t from rfl,dv,dv,b,Xp];grind
theorem Rm(p q:List Rat)(x:Rat):dv (EP p q) x=dv p x*ev q x+ev p x*dv q x:=by
 induction p with
 |nil=>rw[EP,dv,ev];grind
 |cons c t a=>rw[EP,Rl,Nv,dv,dv,ev,a,Lk];grind
theorem Kc(h:∀x,ev p x=ev q x):Jd p=Jd q:=by
 have a:∀i,cf (XH p (YT (-1) q)) i=0:=Rk (λx=>by rw[XW,Xp,h x];grind);refine X1 λi=>?_;have:=a i;rw[Gc,H7]at this;grind
def Dk:Nat->(Nat->Rat)->Rat
 |0,_=>0
 |n+1,f=>Dk n f+f n
theorem Rn{g:Nat->Rat}(h:∀k,k<n->f k=g k):Dk n f=Dk n g:=by
 induction n with
 |zero=>rfl
 |succ n a=>rw[Dk,Dk,a λk b=>h k Y,h n Y]
theorem Ll(h:∀k,k<n->f k=0):Dk n f=0:=by
 induction n with
 |zero=>rfl
 |succ n a=>rw[Dk,a λk b=>h k Y,h n Y];grind
theorem Ro(n:Nat)(f:Nat->Rat):Dk (n+1) f=f 0+Dk n (λk=>f (k+1)):=by
 induction n with
 |zero=>simp[Dk];grind
 |succ n a=>rw[Dk,a,Dk];grind
def conv(p q:List Rat)(n k:Nat):Rat:=Dk n λi=>if i<=k then cf p i*cf q (k-i)else 0
theorem Iu(p q:List Rat)(k:Nat):cf (EP p q) k=conv p q p.length k:=by
 induction p generalizing k with
 |nil=>rfl
 |cons c t b=>
  rw[EP,Gc,H7,conv,Ae,Ro];rw[BH (AV _),YL,Fu];have e:cf (0::EP t q) k=Dk t.length (λi=>if i+1<=k then cf (c::t) (i+1)*cf q (k-(i+1))else 0):=by
   cases k with
   |zero=>
    rw[YL,Ll];intro i a;rw[BB Y]
   |succ k=>
    rw[J1,b,conv];refine Rn λi a=>?_;by_cases h:i<=k
    . rw[BH h,BH Y,J1,show k+1-(i+1)=k-i from by omega]
    . rw[BB h,BB Y]
  rw[e];grind
theorem Rp(p q:List Rat)(h:p.length<=n):conv p q n k=conv p q p.length k:=by
 induction n with
 |zero=>rw[show p.length=0 from by omega]
 |succ n b=>
  by_cases a:p.length=n+1
  . rw[a]
  . rw[<-b Y];show conv p q n k+_=_
    dsimp only;rw[Yi (show p.length<=n from by omega)];split<;>grind
theorem Rq(h:p.length+q.length<=k+1):cf (EP p q) k=0:=by
 rw[Iu];refine Ll λi a=>?_;split
 . rw[Yi (p:=q) Y];grind
 . rfl
theorem Lm(p q:List Rat)(m n:Nat)(hp:p.length=m+1)(hq:q.length=n+1):cf (EP p q) (m+n)=cf p m*cf q n:=by
 rw[Iu,hp,conv,Dk,BH Y,show m+n-m=n from by omega];rw[Ll]
 . grind
 . intro i a;split
   . rw[Yi (p:=q) Y];grind
   . rfl
theorem Nw(hp:Jd p=p)(hq:Jd q=q)(d:p≠[])(e:q≠[]):(Jd (EP p q)).length=p.length+q.length-1:=by
 have f:=Jt hp d;have g:=Jt hq e;have l1:0<p.length:=Af.2 d;have l2:0<q.length:=Af.2 e;have i:=Lm p q (p.length-1) (q.length-1) Y Y;have b:cf (EP p q) (p.length-1+(q.length-1))≠0:=by
  rw[i];intro c;rcases Cj.1 c with a|a
  . exact f a
  . exact g a
 have c:(Jd (EP p q)).length<=p.length+q.length-1:=Lj λj k=>Rq Y;rcases A5 (Jd (EP p q)).length (p.length+q.length-1)with a|a
 . rw[<-Yd]at b;exact absurd (Yi Y) b
 . omega
def Ha(p:List Rat):List Rat:=(List.range (p.length-1)).map λi=>cf p (i+1)*((i+1:Nat):Rat)
theorem IA(p:List Rat)(i:Nat):cf (Ha p) i=cf p (i+1)*((i+1:Nat):Rat):=by
 unfold Ha;rw[Lg];split
 . rfl
 . rw[Yi Y];grind
theorem Rr(p:List Rat)(x:Rat):ev (Ha p) x=dv p x:=by
 induction p with
 |nil=>rfl
 |cons c t a=>
  have e:∀i,cf (Ha (c::t)) i=cf (XH t (0::Ha t)) i:=λi=>by
   rw[IA,Gc,J1];cases i with
   |zero=>rw[YL];grind
   |succ i=>rw[J1,IA];grind
  rw[It e,XW,ev,a,dv];grind
theorem Rs(p:List Rat):XH p []=p:=by cases p<;>rfl
theorem Rt{u v a b:List Rat}(hq:Jd q=q)(r:q≠[])(s:Jd u=u)(t:Jd a=a)(w:Jd v=v)(y:Jd b=b)(C:v.length<q.length)(D:b.length<q.length)
(h:∀x,ev q x*ev u x+ev v x=ev q x*ev a x+ev b x):u=a/\v=b:=by
 obtain⟨d,g⟩:=ex (Jd (XH u (YT (-1) a)));have k:Jd d=d:=by rw[<-g,J3]
 have e:∀x,ev d x=ev u x-ev a x:=λx=>by rw[<-g,Xz,XW,Xp];grind
 have l:∀x,ev (EP d q) x=ev (XH b (YT (-1) v)) x:=λx=>by
  rw[Lk,XW,Xp,e];have:=h x;grind
 have o:=Kc l;have z:(Jd (XH b (YT (-1) v))).length<q.length:=by
  refine Ck (Lj (n:=q.length-1) λj B=>?_) Y;rw[Gc,H7,Yi Y,Yi Y];grind
 have i:d=[]:=by
  by_cases c:d=[]
  . exact c
  . have p:=Nw k hq c r;have A:0<d.length:=Af.2 c;rw[o]at p;omega
 have m:∀x,ev u x=ev a x:=λx=>by
  have:=e x;rw[i,show ev [] x=0 from rfl]at this;grind
 have f:u=a:=by rw[<-s,<-t];exact Kc m
 refine⟨f,?_⟩;rw[<-w,<-y];exact Kc λx=>by
  have:=h x;rw[f]at this;grind
def Ez(i:Nat)(q:List Rat):List Rat:=List.replicate i 0++q
theorem Kd(i:Nat)(q:List Rat)(k:Nat):cf (Ez i q) k=if i<=k then cf q (k-i)else 0:=by
 unfold cf Ez;by_cases h:k<i
 . rw[Ca (by simpa using h),BB Y,List.getElem?_replicate];split<;>rfl
 . rw[AW si,BH Y];simp
theorem Nx(i:Nat)(q:List Rat)(x:Rat):ev (Ez i q) x=x^i*ev q x:=by
 induction i with
 |zero=>rw[show Ez 0 q=q from rfl];grind
 |succ i a=>
  rw[show Ez (i+1) q=0::Ez i q from rfl,ev,a];grind
def YD(z:List Rat)(i:Nat)(a:Rat)(q:List Rat):Nat->List Rat
 |0=>z
 |j+1=>(YD z i a q j).set (i+j) (cf (YD z i a q j) (i+j)+a*cf q j)
theorem Ys(z:List Rat)(i:Nat)(a:Rat)(q:List Rat)(j:Nat):(YD z i a q j).length=z.length:=by
 induction j with
 |zero=>rfl
 |succ j b=>rw[YD,CK,b]
theorem Ru(z:List Rat)(i:Nat)(a:Rat)(q:List Rat)(j k:Nat)(h:i+j<=z.length):cf (YD z i a q j) k=cf z k+(if i<=k/\k<i+j then a*cf q (k-i)else 0):=by
 induction j with
 |zero=>rw[YD,BB Y];grind
 |succ j b=>
  have b:=b Y;rw[YD,XK _ _ _ _ (by rw[Ys];omega)];by_cases c:k=i+j
  . subst c;rw[BH rfl,b,BB Y,BH Y,show i+j-i=j from by omega];grind
  . rw[BB c,b];by_cases d:i<=k/\k<i+j
    . rw[BH d,BH Y]
    . rw[BB d,BB Y]
theorem Lo(z:List Rat)(i:Nat)(a:Rat)(q:List Rat)(k:Nat)(h:i+q.length<=z.length):cf (YD z i a q q.length) k=cf z k+a*cf (Ez i q) k:=by
 rw[Ru _ _ _ _ _ _ h,Kd];by_cases b:i<=k
 . by_cases c:k<i+q.length
   . rw[BH ⟨b,c⟩,BH b]
   . rw[BB Y,BH b,Yi (p:=q) Y];grind
 . rw[BB Y,BB b];grind
theorem Rv(z:List Rat)(i:Nat)(a:Rat)(q:List Rat)(x:Rat)(h:i+q.length<=z.length):ev (YD z i a q q.length) x=ev z x+a*(x^i*ev q x):=by
 have e:∀k,cf (YD z i a q q.length) k=cf (XH z (YT a (Ez i q))) k:=λk=>by
  rw[Lo _ _ _ _ _ h,Gc,H7];grind
 rw[It e,XW,Xp,Nx];grind
def XJ(p q:List Rat)(n:Nat):Nat->List Rat
 |0=>List.replicate n 0
 |i+1=>YD (XJ p q n i) i (cf p i) q q.length
theorem Lp(p q:List Rat)(n i:Nat):(XJ p q n i).length=n:=by
 induction i with
 |zero=>rw[XJ,Aw]
 |succ i a=>rw[XJ,Ys,a]
theorem Ny(p q:List Rat)(n i k:Nat)(h:i=0\/i+q.length<=n+1):cf (XJ p q n i) k=conv p q i k:=by
 induction i with
 |zero=>rw[XJ,JW];rfl
 |succ i a=>
  rw[XJ,Lo _ _ _ _ _ (by rw[Lp];omega),a Y,Kd];show _=conv p q i k+_
  dsimp only;split<;>grind
def JB(p q:List Rat)(n m:Nat):Nat->List Rat × List Rat
 |0=>(List.replicate m 0,p)
 |k+1=>
  let s:=JB p q n m k
  let i:=m-(k+1)
  let c:=cf s.2 (i+n)/cf q n
  (s.1.set i c,YD s.2 i (-c) q q.length)
theorem YN(p q:List Rat)(n m k:Nat):(JB p q n m k).1.length=m/\(JB p q n m k).2.length=p.length:=by
 induction k with
 |zero=>exact⟨Aw,rfl⟩
 |succ k a=>rw[JB];exact⟨by rw[CK];exact a.1,by rw[Ys];exact a.2⟩
theorem Rw(p:List Rat)(i:Nat)(c:Rat)(x:Rat)(d:i<p.length)(b:cf p i=0):ev (p.set i c) x=ev p x+c*x^i:=by
 have e:∀k,cf (p.set i c) k=cf (XH p (Ez i [c])) k:=λk=>by
  rw[XK _ _ _ _ d,Gc,Kd];by_cases h:k=i
  . subst h;rw[BH rfl,BH (Aa _),b,Cw,YL];grind
  . rw[BB h];by_cases a:i<=k
    . rw[BH a,Yi (p:=[c]) si];grind
    . rw[BB a];grind
 rw[It e,XW,Nx];simp[ev];grind
theorem Nz(p q:List Rat)(n m:Nat)(hq:q.length=n+1)(hl:cf q n≠0)(v:m+n=p.length):∀k,k<=m->
 (∀x,ev p x=ev q x*ev (JB p q n m k).1 x+ev (JB p q n m k).2 x)/\(∀j,j<m-k->cf (JB p q n m k).1 j=0)/\(∀j,m-k+n<=j->cf (JB p q n m k).2 j=0):=by
 intro k;induction k with
 |zero=>
  intro _;refine⟨λx=>?_,λj _=>JW _ _,λj e=>Yi (by show p.length<=j;omega)⟩;rw[JB];dsimp only;rw[Is (JW m)];grind
 |succ k r=>
  intro u;obtain⟨f,b,g⟩:=r Y;obtain⟨l1,l2⟩:=YN p q n m k;rw[JB];dsimp only;generalize w:JB p q n m k=s at *;obtain⟨i,o⟩:=ex (m-(k+1));rw[o];obtain⟨c,d⟩:=ex (cf s.2 (i+n)/cf q n);rw[d];have a:i+q.length<=s.2.length:=Y
  have t:c*cf q n=cf s.2 (i+n):=by rw[<-d];exact Ap hl
  refine⟨λx=>?_,λj e=>?_,λj e=>?_⟩
  . rw[Rw _ _ _ _ Y (b i Y),Rv _ _ _ _ _ a,f x];grind
  . rw[XK _ _ _ _ Y,BB Y];exact b j Y
  . rw[Lo _ _ _ _ _ a,Kd,BH Y];by_cases l:j=i+n
    . subst l;rw[show i+n-i=n from by omega];grind
    . rw[g j Y,Yi (p:=q) Y];grind
def Js(p q:List Rat):List Rat:=Jd (JB p q (q.length-1) (p.length-(q.length-1)) (p.length-(q.length-1))).1
def JH(p q:List Rat):List Rat:=Jd (JB p q (q.length-1) (p.length-(q.length-1)) (p.length-(q.length-1))).2
theorem YO(p q:List Rat)(hq:Jd q=q)(a:q≠[]):(∀x,ev p x=ev q x*ev (Js p q) x+ev (JH p q) x)/\(JH p q).length<q.length/\Jd (Js p q)=Js p q/\Jd (JH p q)=JH p q:=by
 have l1:0<q.length:=Af.2 a;refine⟨λx=>?_,?_,J3 _,J3 _⟩
 . unfold Js JH;rw[Xz,Xz];by_cases h:q.length-1<=p.length
   . exact(Nz p q (q.length-1) (p.length-(q.length-1)) Y (Jt hq a) Y _ (Aa _)).1 x
   . rw[show p.length-(q.length-1)=0 from by omega,JB];dsimp only;rw[Is (JW 0)];grind
 . unfold JH;refine Ck (Lj (n:=q.length-1) λj b=>?_) Y;by_cases h:q.length-1<=p.length
   . exact(Nz p q (q.length-1) (p.length-(q.length-1)) Y (Jt hq a) Y _ (Aa _)).2.2 j Y
   . rw[show p.length-(q.length-1)=0 from by omega,JB];exact Yi (by dsimp only;omega)
def Xw(p q:List Rat):List Rat:=Jd (XH p q)
def Yl(p q:List Rat):List Rat:=Jd (XH p (YT (-1) q))
def Jm(p q:List Rat):List Rat:=Jd (EP p q)
def Jb(p:List Rat):List Rat:=Jd (Ha p)
theorem IB(p q:List Rat):Jd (Xw p q)=Xw p q:=J3 _
theorem Xq(p q:List Rat):Jd (Yl p q)=Yl p q:=J3 _
theorem JY(p q:List Rat):Jd (Jm p q)=Jm p q:=J3 _
theorem JF(p:List Rat):Jd (Jb p)=Jb p:=J3 _
theorem YA(p q:List Rat)(x:Rat):ev (Xw p q) x=ev p x+ev q x:=by unfold Xw;rw[Xz,XW]
theorem Y0(p q:List Rat)(x:Rat):ev (Yl p q) x=ev p x-ev q x:=by unfold Yl;rw[Xz,XW,Xp];grind
theorem Jg(p q:List Rat)(x:Rat):ev (Jm p q) x=ev p x*ev q x:=by unfold Jm;rw[Xz,Lk]
theorem Xr(p:List Rat)(x:Rat):ev (Jb p) x=dv p x:=by unfold Jb;rw[Xz,Rr]
theorem Rx(p q:List Rat)(i:Nat):cf (Xw p q) i=cf p i+cf q i:=by unfold Xw;rw[Yd,Gc]
theorem Lq(p q:List Rat)(i:Nat):cf (Yl p q) i=cf p i-cf q i:=by unfold Yl;rw[Yd,Gc,H7];grind
theorem Ry(p q:List Rat):(XH p q).length=max p.length q.length:=by
 induction p generalizing q with
 |nil=>rw[XH];simp
 |cons c t a=>
  cases q with
  |nil=>rw[Rs];simp
  |cons d s=>rw[XH,Ae,a,Ae,Ae];omega
theorem Rz(p q:List Rat):(Xw p q).length<=max p.length q.length:=by
 have:=Y3 (XH p q);rw[Ry]at this;exact this
theorem XA(hp:Jd p=p)(hq:Jd q=q)(h:∀x,ev p x=ev q x):p=q:=by rw[<-hp,<-hq];exact Kc h
theorem R1(p q:List Rat):Jb (Jm p q)=Xw (Jm (Jb p) q) (Jm p (Jb q)):=by
 refine XA (JF _) (IB _ _) λx=>?_;rw[Xr,YA,Jg,Jg,Xr,Xr,<-Rm];exact Nt (λi=>by unfold Jm;rw[Yd]) x
theorem Yt(a b:Rat):a<=b\/b<=a:=Rat.le_total
theorem YE{a b:Rat}(c:0<a)(d:0<b):0<a/b:=by
 have e:a/b*b=a:=Ap (by grind);rcases Yt (a/b) 0 with h|h
 . have:=Rat.mul_nonneg (a:=-(a/b)) (b:=b) (by grind) (by grind);grind
 . rcases Rat.le_iff_lt_or_eq.1 h with h|h
   . exact h
   . rw[<-h]at e;grind
theorem R3{U V:Rat}(a:-U<=u)(b:u<=U)(c:-V<=v)(d:v<=V):-(U*V)<=u*v/\u*v<=U*V:=by
 have e:=Rat.mul_nonneg (a:=U-u) (b:=V+v) (by grind) (by grind);have f:=Rat.mul_nonneg (a:=U+u) (b:=V-v) (by grind) (by grind);have g:=Rat.mul_nonneg (a:=U-u) (b:=V-v) (by grind) (by grind);have i:=Rat.mul_nonneg (a:=U+u) (b:=V+v) (by grind) (by grind);constructor<;>grind
def Wi(K u:Rat):Prop:=-K<=u/\u<=K
theorem Wi.mul(h:Wi K u)(a:Wi L v):Wi (K*L) (u*v):=R3 h.1 h.2 a.1 a.2
theorem Wi.add(h:Wi K u)(a:Wi L v):Wi (K+L) (u+v):=by have:=h.1;have:=h.2;have:=a.1;have:=a.2;constructor<;>grind
theorem Wi.mono(h:Wi K u)(hl:K<=L):Wi L u:=by have:=h.1;have:=h.2;constructor<;>grind
theorem Iv(c:Rat)(p:List Rat)(x:Rat):ev (c::p) x=c+x*ev p x:=rfl
theorem XX(c:Rat):∃K,0<K/\Wi K c:=by
 rcases Yt 0 c with h|h
 . exact⟨c+1,by grind,by constructor<;>grind⟩
 . exact⟨-c+1,by grind,by constructor<;>grind⟩
theorem XB(p:List Rat)(b:0<=B):∃K,0<K/\∀x,Wi B x->Wi K (ev p x):=by
 induction p with
 |nil=>exact⟨1,DI,λx _=>⟨by simp[ev];grind,by simp[ev];grind⟩⟩
 |cons c p f=>
  obtain⟨K,d,h⟩:=f;obtain⟨C,g,e⟩:=XX c;have:=Rat.mul_nonneg b (Rat.le_of_lt d);exact⟨C+B*K,by grind,λx a=>e.add (a.mul (h x a))⟩
theorem R4(p:List Rat)(a:0<=B):∃K,0<K/\∀x y,Wi B x->Wi B y->x<=y->Wi (K*(y-x)) (ev p x-ev p y):=by
 induction p with
 |nil=>exact⟨1,DI,λx y _ _ d=>⟨by simp[ev];grind,by simp[ev];grind⟩⟩
 |cons c p l=>
  obtain⟨K,j,h⟩:=l;obtain⟨C,m,k⟩:=XB p a;refine⟨C+B*K+1,by have:=Rat.mul_nonneg a (Rat.le_of_lt j);grind,λx y b f d=>?_⟩;have g:Wi (y-x) (x-y):=⟨by grind,by grind⟩;have i:=(g.mul (k x b)).add (f.mul (h x y b f d));have e:ev (c::p) x-ev (c::p) y=(x-y)*ev p x+y*(ev p x-ev p y):=by rw[Iv,Iv];grind
  rw[e];refine i.mono ?_;grind
def Sh(B:Rat)(P:Rat->Rat->Prop):Prop:=∃d,0<d/\∀x y,Wi B x->Wi B y->x<=y->y-x<=d->P x y
section
variable {B:Rat} {P Q:Rat->Rat->Prop}
theorem Sh.and(h:Sh B P)(f:Sh B Q):Sh B λx y=>P x y/\Q x y:=by
 obtain⟨d,d0,h⟩:=h;obtain⟨e,g,f⟩:=f;rcases Yt d e with i|i
 . exact⟨d,d0,λx y a b c l=>⟨h x y a b c l,f x y a b c (by grind)⟩⟩
 . exact⟨e,g,λx y a b c l=>⟨h x y a b c (by grind),f x y a b c l⟩⟩
theorem Sh.mono(h:Sh B P)(e:∀x y,Wi B x->Wi B y->x<=y->P x y->Q x y):Sh B Q:=by
 obtain⟨d,d0,h⟩:=h;exact⟨d,d0,λx y a b c l=>e x y a b c (h x y a b c l)⟩
theorem Sh.all(h:∀x y,Wi B x->Wi B y->x<=y->P x y):Sh B P:=⟨1,DI,λx y a b c _=>h x y a b c⟩
end
def Dg(p:List Rat)(x y:Rat):Prop:=0<ev p x*ev p y
theorem Ge(p:List Rat){B e:Rat}(n:0<=B)(o:0<e):Sh B λx y=>¬Dg p x y->Wi e (ev p x)/\Wi e (ev p y):=by
 obtain⟨K,j,h⟩:=R4 p n;refine⟨e/K,YE o j,λx y a b c l q=>?_⟩;have k:=h x y a b c;have m:K*(y-x)<=e:=by
  have:=Rat.mul_le_mul_of_nonneg_left l (Rat.le_of_lt j);have r:K*(e/K)=e:=by rw[CI,Ap (by grind)]
  grind
 have i:=k.mono m;have u:ev p x*ev p y<=0:=Rat.not_lt.1 q;have s:=i.1;have t:=i.2;rcases Yt 0 (ev p x)with f|f<;>rcases Yt 0 (ev p y)with g|g
 . rcases Rat.le_iff_lt_or_eq.1 f with d|d
   . rcases Rat.le_iff_lt_or_eq.1 g with q2|q2
     . have:=Rat.mul_pos d q2;grind
     . constructor<;>constructor<;>grind
   . constructor<;>constructor<;>grind
 . constructor<;>constructor<;>grind
 . constructor<;>constructor<;>grind
 . rcases Rat.le_iff_lt_or_eq.1 f with d|d
   . rcases Rat.le_iff_lt_or_eq.1 g with q2|q2
     . have:=Rat.mul_pos (a:=- ev p x) (b:=- ev p y) (by grind) (by grind);grind
     . constructor<;>constructor<;>grind
   . constructor<;>constructor<;>grind
end
section
def EF:Rat->List Rat->Nat
 |_,[]=>0
 |a,b::l=>if b=0 then EF a l else(if a*b<0 then 1 else 0)+EF b l
def DO(l:List Rat):Nat:=EF 0 l
def JM(l:List (List Rat))(x:Rat):List Rat:=l.map λp=>ev p x
variable{a b:Rat}
theorem JZ(p:List Rat)(l:List (List Rat))(x:Rat):JM (p::l) x=ev p x::JM l x:=rfl
theorem R5(h:a<0)(c:0<=b):a*b<=0:=by
 have:=Rat.mul_nonneg (a:=-a) (b:=b) (by grind) c;grind
theorem N0(h:a<0)(c:0<=b)(d:0<a*b):False:=by have:=R5 h c;grind
theorem Lr{c d:Rat}(h:0<a*c)(j:0<b*d):a*b<0↔c*d<0:=by
 have g:0<(a*b)*(c*d):=by have:=Rat.mul_pos h j;grind
 constructor
 . intro i;rcases Yt 0 (c*d)with e|e
   . exact(N0 i e g).elim
   . rcases Rat.le_iff_lt_or_eq.1 e with f|f
     . exact f
     . rw[f]at g;grind
 . intro i;rcases Yt 0 (a*b)with e|e
   . exact(N0 i e (by rw[CI];exact g)).elim
   . rcases Rat.le_iff_lt_or_eq.1 e with f|f
     . exact f
     . rw[f]at g;grind
theorem Ya(h:0<a*b):a≠0/\b≠0:=⟨λe=>by rw[e]at h;grind,λe=>by rw[e]at h;grind⟩
theorem R6(h:a*b<0):a≠0/\b≠0:=⟨λe=>by rw[e]at h;grind,λe=>by rw[e]at h;grind⟩
theorem XC(h:b≠0)(l:List Rat):EF a (b::l)=(if a*b<0 then 1 else 0)+EF b l:=by
 rw[EF,BB h]
theorem N1{g h:Rat}(i:a*h<0)(l:List Rat):EF a (g::h::l)=1+EF h l:=by
 obtain⟨m,f⟩:=R6 i;by_cases d:g=0
 . rw[EF,BH d,XC f,BH i]
 . rw[XC d,XC f];have j:0<g*g:=by
    rcases Yt 0 g with e|e
    . rcases Rat.le_iff_lt_or_eq.1 e with c|c
      . exact Rat.mul_pos c c
      . exact absurd c.symm d
    . rcases Rat.le_iff_lt_or_eq.1 e with c|c
      . have:=Rat.mul_pos (a:=-g) (b:=-g) (by grind) (by grind);grind
      . exact absurd c d
   have k:(a*g)*(g*h)<0:=by
    have:=Rat.mul_pos (a:=-(a*h)) (b:=g*g) (by grind) j;grind
   by_cases p:a*g<0
   . have:¬g*h<0:=λq=>by
      have:=Rat.mul_pos (a:=-(a*g)) (b:=-(g*h)) (by grind) (by grind);grind
     rw[BH p,BB this];omega
   . have:g*h<0:=by
      rcases Yt 0 (g*h)with q|q
      . have:=Rat.mul_nonneg (a:=a*g) (b:=g*h) (Rat.not_lt.1 p) q;grind
      . rcases Rat.le_iff_lt_or_eq.1 q with q|q
        . exact q
        . rw[q]at k;grind
     rw[BB p,BH this];omega
def N2(x y:Rat):List (List Rat)->Prop
 |[]=>False
 |[f]=>Dg f x y
 |[_,g]=>Dg g x y
 |f::g::h::l=>(Dg f x y\/Dg g x y)/\(¬Dg g x y->ev f x*ev h x<0/\ev f y*ev h y<0)/\N2 x y (g::h::l)
structure Gd(x y:Rat)(l:List (List Rat)):Prop where
 o:N2 x y l
section
variable {x y:Rat}
variable{l:List (List Rat)}{f g:List Rat}{a:Rat}
theorem Gd.adj(h:Gd x y (f::g::l)):Dg f x y\/Dg g x y:=by
 match l,h with
 |[],h=>exact Or.inr h.o
 |_::_,h=>exact h.o.1
theorem Gd.tail(h:Gd x y (f::g::l)):Gd x y (g::l):=by
 match l,h with
 |[],h=>exact⟨h.o⟩
 |_::_,h=>exact⟨h.o.2.2⟩
theorem Gd.same:∀(n:Nat) (l:List (List Rat)) (f:List Rat),l.length<=n->Gd x y (f::l)->Dg f x y->EF (ev f x) (JM l x)=EF (ev f y) (JM l y):=by
 intro n;induction n with
 |zero=>
  intro l f hl _ _
  have:l=[]:=AM.1 Y
  subst this;rfl
 |succ n d=>
  intro l f hl a e;match l,hl,a with
  |[],_,_=>rfl
  |g::l,hl,a=>
   by_cases b:Dg g x y
   . obtain⟨j,k⟩:=Ya b;rw[JZ,JZ,XC j,XC k,d l g (by simp at hl;omega) a.tail b];have:=Lr e b;by_cases p:ev f x*ev g x<0
     . rw[BH p,BH (this.1 p)]
     . rw[BB p,BB λq=>p (this.2 q)]
   . match l,hl,a with
     |[],_,a=>exact absurd a.o b
     |h::l,hl,a=>
      have i:Dg h x y:=(a.tail.adj).resolve_left b;have c:ev f x*ev h x<0/\ev f y*ev h y<0:=a.o.2.1 b;rw[JZ,JZ,JZ,JZ,N1 c.1,N1 c.2,d l h (by simp at hl;omega) a.tail.tail i]
theorem Ls(h:a≠0)(l:List Rat):DO (a::l)=EF a l:=by
 unfold DO;rw[XC h,CC,BB DI];omega
theorem IC{b:Rat}(h:b≠0)(l:List Rat):DO (a::b::l)=(if a*b<0 then 1 else 0)+EF b l:=by
 by_cases c:a=0
 . rw[DO,EF,BH c,c,CC,XC h,CC]
 . rw[Ls c,XC h]
theorem Gd.stay(h:Gd x y (f::l))(a:Dg f x y):DO (JM (f::l) x)=DO (JM (f::l) y):=by
 obtain⟨b,c⟩:=Ya a;rw[JZ,JZ,Ls b,Ls c];exact h.same _ l f (Aa _) a
theorem Gd.both{m:List (List Rat)}(h:Gd x y (f::l))(c:Gd x y (g::m)){k:Rat}(B:k≠0)(w:∀x,ev f x=k*ev g x)
(v:¬Dg g x y->∀f1 l1 d o,l=f1::l1->m=d::o->0<k*ev f1 x*ev d x/\0<k*ev f1 y*ev d y):
 DO (JM (f::l) x)+DO (JM (g::m) y)=DO (JM (f::l) y)+DO (JM (g::m) x):=by
 have H:0<k*k:=by
  rcases Yt 0 k with i|i
  . rcases Rat.le_iff_lt_or_eq.1 i with c|c
    . exact Rat.mul_pos c c
    . exact absurd c.symm B
  . rcases Rat.le_iff_lt_or_eq.1 i with c|c
    . have:=Rat.mul_pos (a:=-k) (b:=-k) (by grind) (by grind);grind
    . exact absurd c B
 have A:ev f x*ev f y=(k*k)*(ev g x*ev g y):=by rw[w,w];grind
 by_cases j:Dg g x y
 . have n:Dg f x y:=by unfold Dg at *;rw[A];exact Rat.mul_pos H j
   have:=h.stay n;have:=c.stay j;omega
 . have n:¬Dg f x y:=λq=>j (by
    unfold Dg at *;rw[A]at q;rcases Yt (ev g x*ev g y) 0 with r|r
    . have:=Rat.mul_nonneg (a:=k*k) (b:=-(ev g x*ev g y)) (by grind) (by grind);grind
    . rcases Rat.le_iff_lt_or_eq.1 r with r|r
      . exact r
      . rw[<-r]at q;grind)
   match l,m,h,c,v j with
   |[],_,h,_,_=>exact absurd h.o n
   |_::_,[],_,c,_=>exact absurd c.o j
   |f1::l1,d::o,h,c,v=>
    obtain⟨N,P⟩:=v f1 l1 d o rfl rfl;have C:=(h.adj).resolve_left n;have D:=(c.adj).resolve_left j;obtain⟨I,K⟩:=Ya C;obtain⟨L,M⟩:=Ya D;rw[JZ,JZ,JZ,JZ,JZ,JZ,JZ,JZ,IC I,IC K,IC L,IC M,h.tail.same _ l1 f1 (Aa _) C,c.tail.same _ o d (Aa _) D];have t:∀z,0<k*ev f1 z*ev d z->(ev f z*ev f1 z<0↔ev g z*ev d z<0):=λz G=>by
     have E:ev f z*ev f1 z=ev g z*(k*ev f1 z):=by rw[w];grind
     rw[E];by_cases u:ev g z=0
     . rw[u];grind
     . have F:0<ev g z*ev g z:=by
        rcases Yt 0 (ev g z)with i|i
        . rcases Rat.le_iff_lt_or_eq.1 i with c|c
          . exact Rat.mul_pos c c
          . exact absurd c.symm u
        . rcases Rat.le_iff_lt_or_eq.1 i with c|c
          . have:=Rat.mul_pos (a:=-(ev g z)) (b:=-(ev g z)) (by grind) (by grind);grind
          . exact absurd c u
       exact Lr F G
    have p:=t x N;have s:=t y P;by_cases e:ev g x*ev d x<0<;>by_cases q2:ev g y*ev d y<0
    . rw[BH e,BH q2,BH (p.2 e),BH (s.2 q2)]
    . rw[BH e,BB q2,BH (p.2 e),BB λq=>q2 (s.1 q)];omega
    . rw[BB e,BH q2,BB λq=>e (p.1 q),BH (s.2 q2)];omega
    . rw[BB e,BB q2,BB λq=>e (p.1 q),BB λq=>q2 (s.1 q)]
end
end
def N3:List (List Rat)->Prop
 |[]=>False
 |[f]=>∃c:Rat,c≠0/\∀x,ev f x=c
 |[_,g]=>∃c:Rat,c≠0/\∀x,ev g x=c
 |f::g::h::l=>(∃(q:List Rat) (a c:Rat),0<a/\0<c/\∀x,a*ev f x=ev q x*ev g x-c*ev h x)/\N3 (g::h::l)
structure StC(l:List (List Rat)):Prop where
 o:N3 l
variable{f g p:List Rat}{U V a c e i u v w y:Rat}
theorem StC.one(h:c≠0)(k:∀x,ev f x=c):StC [f]:=⟨⟨c,h,k⟩⟩
theorem StC.two(h:c≠0)(k:∀x,ev g x=c):StC [f,g]:=⟨⟨c,h,k⟩⟩
theorem StC.more{h q:List Rat}{l:List (List Rat)}(b:0<a)(d:0<c)(k:∀x,a*ev f x=ev q x*ev g x-c*ev h x)(n:StC (g::h::l)):StC (f::g::h::l):=⟨⟨⟨q,a,c,b,d,k⟩,n.o⟩⟩
theorem Gg:(0:Rat)<1/4:=by grind
theorem Jy(c x:Rat):ev [c] x=c:=by simp[ev];grind
theorem Iw(g:c≠0)(h:∀x,ev f x=c)(x y:Rat):Dg f x y:=by
 unfold Dg;rw[h,h];rcases Yt 0 c with e|e
 . rcases Rat.le_iff_lt_or_eq.1 e with d|d
   . exact Rat.mul_pos d d
   . exact absurd d.symm g
 . rcases Rat.le_iff_lt_or_eq.1 e with d|d
   . have:=Rat.mul_pos (a:=-c) (b:=-c) (by grind) (by grind);grind
   . exact absurd d g
theorem StC.cop:∀ {f g:List Rat} {l:List (List Rat)},StC (f::g::l)->∃u v:List Rat,∀x,ev u x*ev f x+ev v x*ev g x=1
 |_,_,[],⟨⟨c,d,b⟩⟩=>by
  refine⟨[],[1/c],λx=>?_⟩;rw[b,Jy]
  have:1/c*c=1:=Ap d
  simp[ev];grind
 |f,g,h::l,⟨⟨⟨q,a,c,s,d,b⟩,o⟩⟩=>by
  have n:StC (g::h::l):=⟨o⟩;obtain⟨u,v,p⟩:=StC.cop n;have e:c≠0:=by grind
  refine⟨Jm [-(a/c)] v,Xw u (Jm [1/c] (Jm v q)),λx=>?_⟩;rw[Jg,YA,Jg,Jg,Jy,Jy];have i:=p x;have r:=b x;have j:1/c*c=1:=Ap e;have k:a/c=1/c*a:=by rw[Fi,Fi,CG,CI]
  rw[k];have m:ev h x=1/c*(ev q x*ev g x-a*ev f x):=by
   have:ev h x=1/c*(c*ev h x):=by rw[<-Rat.mul_assoc,j,CG]
   rw[this];congr 1;grind
  rw[m]at i;grind
theorem Lt{f g:Rat}(h:u*f+v*g=1)(b:Wi U u)(a:Wi e f)(c:U*e<=1/4):3/4<=v*g:=by
 have:=(b.mul a).2;grind
theorem StC.gd{B:Rat}(j:0<=B):∀ {l:List (List Rat)},StC l->Sh B λx y=>Gd x y l
 |[_],⟨⟨_,n,m⟩⟩=>Sh.all λx y _ _ _=>⟨Iw n m x y⟩
 |[_,_],⟨⟨_,n,m⟩⟩=>Sh.all λx y _ _ _=>⟨Iw n m x y⟩
 |f::g::h::l,⟨⟨⟨q,a,c,ha,n,m⟩,ai⟩⟩=>by
  have k:StC (g::h::l):=⟨ai⟩;have A:=StC.gd j k;obtain⟨u,v,aj⟩:=(StC.more ha n m k).cop;obtain⟨u2,D,ak⟩:=k.cop;obtain⟨U1,P,ad⟩:=XB u j;obtain⟨U2,R,ae⟩:=XB v j;obtain⟨U3,S,af⟩:=XB u2 j;obtain⟨i,C,ah⟩:=XB D j;obtain⟨Q,T,X⟩:=XB q j;have d:∀ {r K:Rat},0<r->0<K->K*(r/K)=r:=λ_ hK=>by rw[CI,Ap (by grind)]
  have E:=(((Ge f j (YE Gg P)).and (Ge g j (YE Gg R))).and ((Ge g j (YE Gg S)).and (Ge g j (YE (YE (show(0:Rat)<c/2 by grind) C) T)))).and A;refine E.mono λx y t hy am ⟨⟨⟨tf,tg⟩,V,W⟩,A⟩=>?_;refine⟨⟨?_,λk=>?_,A.o⟩⟩
  . by_cases U:Dg f x y
    . exact Or.inl U
    . by_cases sg:Dg g x y
      . exact Or.inr sg
      . exfalso
        have G:=Lt (aj x) (ad x t) (tf U).1 (by rw[d Gg P];exact Rat.le_refl);have o:=((ae x t).mul (tg sg).1).2;rw[d Gg R]at o;grind
  . have N:∀z,Wi B z->Wi (1/4/U3) (ev g z)->Wi (c/2/i/Q) (ev g z)->ev f z*ev h z<0:=λz w w1 w2=>by
     have G:=Lt (ak z) (af z w) w1 (by rw[d Gg S];exact Rat.le_refl);have o:=(X z w).mul w2;rw[d (YE (show(0:Rat)<c/2 by grind) C) T]at o;have H:=m z;have I:=ah z w;have L:Wi (c/2) (i*(ev q z*ev g z)):=by
      have:=(show Wi i i from⟨by grind,by grind⟩).mul o;rwa[d (show(0:Rat)<c/2 by grind) C]at this
     have F:ev h z≠0:=λe=>by rw[e]at G;grind
     rcases Yt 0 (ev h z)with s|s
     . have s:0<ev h z:=by
        rcases Rat.le_iff_lt_or_eq.1 s with s|s
        . exact s
        . exact absurd s.symm F
       have h6:3/4<=i*ev h z:=by
        have:=Rat.mul_nonneg (a:=i-ev D z) (b:=ev h z) (by have:=I.2;grind) (by grind);grind
       have p:i*(a*ev f z)<0:=by
        rw[H];have:=Rat.mul_nonneg (a:=c) (b:=i*ev h z-3/4) (by grind) (by grind);have:=L.2;grind
       have M:ev f z<0:=by
        rcases Yt 0 (ev f z)with r|r
        . have:=Rat.mul_nonneg (a:=i*a) (b:=ev f z) (Rat.mul_nonneg (by grind) (by grind)) r;grind
        . rcases Rat.le_iff_lt_or_eq.1 r with r|r
          . exact r
          . rw[r]at p;grind
       have:=Rat.mul_pos (a:=-ev f z) (b:=ev h z) (by grind) s;grind
     . have s:ev h z<0:=by
        rcases Rat.le_iff_lt_or_eq.1 s with s|s
        . exact s
        . exact absurd s F
       have h6:i*ev h z<=-(3/4):=by
        have:=Rat.mul_nonneg (a:=i+ev D z) (b:=-ev h z) (by have:=I.1;grind) (by grind);grind
       have p:0<i*(a*ev f z):=by
        rw[H];have:=Rat.mul_nonneg (a:=c) (b:=-(i*ev h z)-3/4) (by grind) (by grind);have:=L.1;grind
       have M:0<ev f z:=by
        rcases Yt (ev f z) 0 with r|r
        . have:=Rat.mul_nonneg (a:=i*a) (b:=-ev f z) (Rat.mul_nonneg (by grind) (by grind)) (by grind);grind
        . rcases Rat.le_iff_lt_or_eq.1 r with r|r
          . exact r
          . rw[<-r]at p;grind
       have:=Rat.mul_pos (a:=ev f z) (b:=-ev h z) M (by grind);grind
    exact⟨N x t (V k).1 (W k).1,N y hy (V k).2 (W k).2⟩
theorem steps{d:Rat}(i:0<d)(a b:Rat):∃n:Nat,b-a<=(n:Rat)*d:=by
 obtain⟨q,hq⟩:=ex ((b-a)/d);refine⟨q.ceil.toNat,?_⟩;have e:b-a=q*d:=by rw[<-hq,Ap (by grind)]
 rw[e];have g:q<=(q.ceil.toNat:Rat):=by
  have c:q<=(q.ceil:Rat):=Rat.le_ceil;have f:(q.ceil:Rat)<=((q.ceil.toNat:Int):Rat):=Rat.intCast_le_intCast.2 (Int.self_le_toNat _);exact Rat.le_trans c f
 have:=Rat.mul_nonneg (a:=(q.ceil.toNat:Rat)-q) (b:=d) (by grind) (by grind);grind
theorem glue{B:Rat}{F G:Rat->Nat}(h:Sh B λx y=>F x+G y=F y+G x){b:Rat}(c:Wi B a)(j:Wi B b)(f:a<=b):F a+G b=F b+G a:=by
 obtain⟨d,d0,h⟩:=h;obtain⟨n,m⟩:=steps d0 a b
 have:∀(n:Nat) (a:Rat),Wi B a->a<=b->b-a<=(n:Rat)*d->F a+G b=F b+G a:=by
  intro n;induction n with
  |zero=>
   intro a c f g;have e:a=b:=by
    have:((0:Nat):Rat)=0:=rfl
    rw[this]at g;grind
   rw[e]
  |succ n o=>
   intro a c f g;have l:((n+1:Nat):Rat)=(n:Rat)+1:=by rw[Rat.natCast_add];rfl
   rw[l]at g;rcases Yt (b-a) d with i|i
   . exact h a b c j f i
   . have k:Wi B (a+d):=⟨by have:=c.1;grind,by have:=j.2;grind⟩;have p:=h a (a+d) c k (by grind) (by grind);have q:=o (a+d) k (by grind) (by grind);omega
 exact this n a c f m
theorem El(a:Rat):0<=a*a:=by
 rcases Yt 0 a with h|h
 . exact Rat.mul_nonneg h h
 . have:=Rat.mul_nonneg (a:=-a) (b:=-a) (by grind) (by grind);grind
theorem Lu(h:Wi V v):v*v<=V*V:=by
 have:=Rat.mul_nonneg (a:=V-v) (b:=V+v) (by have:=h.2;grind) (by have:=h.1;grind);grind
theorem R7{f c g d:Rat}(m:Wi U u)(n:Wi V v)(p:Wi c y)(j:Wi e a)(l:Wi g i)(q:Wi d f)(C:u*w+v*y=1)(o:w=a*i)
(r:U*(e*g)<=1/4)(s:(V*V)*(e*(c*d))<=1/16):1/2<=(V*V)*(y*(y-a*f)):=by
 have k:=(m.mul (j.mul l)).2;rw[<-o]at k;have t:3/4<=v*y:=by grind
 have x:=Rat.mul_nonneg (a:=V*V-v*v) (b:=y*y) (by have:=Lu n;grind) (El y);have z:=Rat.mul_nonneg (a:=v*y-3/4) (b:=v*y+3/4) (by grind) (by grind);have A:=(j.mul (p.mul q)).2;have B:=Rat.mul_nonneg (a:=V*V) (b:=e*(c*d)-a*(y*f)) (El V) (by grind);grind
theorem R8{j c f A k d g n:Rat}(I:Wi U u)(x:Wi V v)(s:Wi A a)(G:Wi k i)(r:Wi e j)(l:Wi d c)(z:Wi g f)(ad:u*w+v*y=1)(K:w=a*j)
(o:y=i*j+a*(c+f))(hn:0<n)(hp:n<=f*c)(L:U*(A*e)<=1/4)(N:V*(k*e)<=1/4)
(C:((V*(d+g))*(V*(d+g)))*((k*e)*(A*(d+d+g)))<=n/8):n/8<=((V*(d+g))*(V*(d+g)))*(y*(i*j+a*c)):=by
 obtain⟨M,F⟩:=ex (V*(d+g));have m:=x.mul (l.add z);rw[F]at m C ⊢;have D:=(I.mul (s.mul r)).2;rw[<-K]at D;obtain⟨t,H⟩:=ex (i*j);have p:=G.mul r;rw[H]at p o ⊢;have W:=(x.mul p).2;have E:v*y=v*t+a*(v*(c+f)):=by rw[o];grind
 obtain⟨q,hq⟩:=ex (v*(c+f));rw[hq]at E m;have X:1/2<=a*q:=by grind
 have h6:=Rat.mul_nonneg (a:=a*a) (b:=M*M-q*q) (El a) (by have:=Lu m;grind);have h7:=Rat.mul_nonneg (a:=a*q-1/2) (b:=a*q+1/2) (by grind) (by grind);have h8:1/4<=(a*a)*(M*M):=by grind
 have h9:=Rat.mul_nonneg (a:=(a*a)*(M*M)-1/4) (b:=n) (by grind) (by grind);have P:=Rat.mul_nonneg (a:=(a*a)*(M*M)) (b:=f*c-n) (by grind) (by grind);have Q:=Rat.mul_nonneg (a:=(a*a)*(M*M)) (b:=c*c) (by grind) (El c);have R:=Rat.mul_nonneg (a:=M*M) (b:=t*t) (El M) (El t);have S:=(p.mul (s.mul ((l.add l).add z))).1;have T:=Rat.mul_nonneg (a:=M*M) (b:=t*(a*(c+c+f))+(k*e)*(A*(d+d+g))) (El M) (by grind);have B:y*(t+a*c)=t*t+t*(a*(c+c+f))+(a*a)*(c*c)+(a*a)*(f*c):=by rw[o];grind
 rw[B];grind
theorem small{K r:Rat}(d:0<=K)(c:0<r):∃e,0<e/\∀f,f<=e->K*f<=r:=by
 refine⟨r/(K+1),YE c (by grind),λf k=>?_⟩;have g:r/(K+1)*(K+1)=r:=Ap (by grind);have i:=Rat.mul_nonneg (a:=K) (b:=r/(K+1)-f) d (by grind);have j:=YE c (show(0:Rat)<K+1 by grind);grind
theorem N8{s:Rat}(C:s*s=1):∀(p:List Rat),Jd p=p->p≠[]->∃B e:Rat,0<B/\0<e/\∀x,B<=x->e<=s^(p.length-1)*cf p (p.length-1)*ev p (s*x):=by
 intro p;induction p with
 |nil=>intro _ h;exact absurd rfl h
 |cons c t o=>
  intro tp p0;by_cases d:t=[]
  . subst d;have c0:c≠0:=by
     have:=Jt tp p0;simpa[cf]using this
    refine⟨1,c*c,DI,?_,λx _=>?_⟩
    . have:=Iw (f:=[c]) c0 (λx=>Jy c x) 0 0;unfold Dg at this;rwa[Jy]at this
    . rw[Jy];simp[cf]
  . have q:Jd t=t:=by
     refine Nr (Or.inr ?_);have:=Jt tp p0;have hl:=Af.2 d;rw[Ae,show t.length+1-1=(t.length-1)+1 by omega,J1]at this;exact this
    obtain⟨B,e,A,g,h⟩:=o q d;have hl:=Af.2 d;obtain⟨n,i⟩:∃n,t.length=n+1:=⟨t.length-1,Y⟩;have m:cf (c::t) ((c::t).length-1)=cf t n:=by
     rw[Ae,i,show n+1+1-1=n+1 by omega,J1]
    rw[m,Ae,i,show n+1+1-1=n+1 by omega];rw[i,show n+1-1=n by omega]at h;generalize cf t n=k at *;obtain⟨D,hD,l⟩:=XX (s^(n+1)*k*c);refine⟨B+(D+e)/e,e,?_,g,λx E=>?_⟩
    . have:=YE (a:=D+e) (b:=e) (by grind) g;grind
    . have r:=YE (a:=D+e) (b:=e) (by grind) g;have u:=h x (by grind);have v:(D+e)/e*e=D+e:=Ap (by grind);rw[Iv];have j:s^(n+1)*k*(c+s*x*ev t (s*x))=s^(n+1)*k*c+x*(s^n*k*ev t (s*x)):=by
       rw[Rat.pow_succ];grind
      rw[j];have w:=Rat.mul_nonneg (a:=x) (b:=s^n*k*ev t (s*x)-e) (by grind) (by grind);have y:=Rat.mul_nonneg (a:=x-(D+e)/e) (b:=e) (by grind) (by grind);have z:=l.1;grind
theorem R9(tp:Jd p=p)(p0:p≠[]):∃B,0<B/\∀x,B<=x->0<cf p (p.length-1)*ev p x:=by
 obtain⟨B,e,b,i,c⟩:=N8 (s:=1) (by grind) p tp p0;refine⟨B,b,λx f=>?_⟩;have d:=c x f;have a:∀n:Nat,(1:Rat)^n=1:=λn=>by
  induction n with
  |zero=>rfl
  |succ n g=>rw[Rat.pow_succ,g];grind
 rw[a,CG,CG]at d;grind
theorem SA(tp:Jd p=p)(p0:p≠[]):∃B,0<B/\∀x,x<=-B->0<(-1)^(p.length-1)*cf p (p.length-1)*ev p x:=by
 obtain⟨B,e,a,d,b⟩:=N8 (s:=-1) (by grind) p tp p0;refine⟨B,a,λx f=>?_⟩;have c:=b (-x) (by grind);rw[show(-1:Rat)*-x=x by grind]at c;grind
theorem N9:∀(l m:List Rat) (a b:Rat),l.length=m.length->(∀i (k:i<l.length) (e:i<m.length),0<l[i]*m[i])->(0<a*b\/(a=0/\b=0))->EF a l=EF b m:=by
 intro l;induction l with
 |nil=>intro m a b h _ _;cases m with|nil=>rfl|cons=>simp at h
 |cons c l n=>
  intro m a b h e f;cases m with
  |nil=>simp at h
  |cons d m=>
   have g:0<c*d:=e 0 Z Z;obtain⟨o,p⟩:=Ya g;have j:=n m c d (by simpa using h) (λi k s=>e (i+1) si si) (Or.inl g);rw[XC o,XC p,j];rcases f with f|⟨rfl,rfl⟩
   . have:=Lr f g;by_cases q:a*c<0
     . rw[BH q,BH (this.1 q)]
     . rw[BB q,BB λr=>q (this.2 r)]
   . rw[CC,CC]

