import Derived.Test.YtakpoihdghihmaaGreatDoorP00
set_option maxRecDepth 100000
set_option maxHeartbeats 16000000
namespace Go.Proofs.YtakpoihdghihmaaGreatDoor
section
theorem BH:type_of% @if_pos:=@if_pos
theorem BB:type_of% @if_neg:=@if_neg
def cf(p:List Rat)(i:Nat):Rat:=p[i]?.getD 0
variable{p q:List Rat}{i k n:Nat}{f:Nat->Rat}{B K L u v:Rat}
theorem YH(i:Nat):cf [] i=0:=by simp[cf]
theorem YM(c:Rat)(t:List Rat):cf (c::t) 0=c:=by simp[cf]
theorem J1(c:Rat)(t:List Rat)(i:Nat):cf (c::t) (i+1)=cf t i:=by simp[cf]
theorem Yj(h:p.length<=i):cf p i=0:=by simp[cf,List.getElem?_eq_none h]
theorem Re(h:i<p.length):cf p i=p[i]:=by simp[cf,List.getElem?_eq_getElem h]
theorem XN(p:List Rat)(k:Nat)(c:Rat)(i:Nat)(a:k<p.length):cf (p.set k c) i=if i=k then c else cf p i:=by
 unfold cf;by_cases h:i=k
 . subst h;rw[BH rfl,A9 a];rfl
 . rw[BB h,AR λe=>h e.symm]
theorem JW(n:Nat)(i:Nat):cf (List.replicate n 0) i=0:=by
 unfold cf;rw[List.getElem?_replicate];split<;>rfl
theorem Lo(n:Nat)(f:Nat->Rat)(i:Nat):cf ((List.range n).map f) i=if i<n then f i else 0:=by
 unfold cf;rw[Fa];by_cases h:i<n
 . rw[List.getElem?_range h,BH h];rfl
 . rw[AO si,BB h];rfl
theorem Lp(p:List Rat)(n i:Nat):cf (p.take n) i=if i<n then cf p i else 0:=by
 unfold cf;rw[Fm];split<;>rfl
def Jd:List Rat->List Rat
 |[]=>[]
 |c::t=>match Jd t with
  |[]=>if c=0 then []else [c]
  |d::s=>c::d::s
theorem Ye(p:List Rat)(i:Nat):cf (Jd p) i=cf p i:=by
 induction p generalizing i with
 |nil=>rfl
 |cons c t b=>
  have a:=b;rw[Jd];split
  . rename_i h;rw[h]at a;cases i with
    |zero=>split<;>simp_all [cf]
    |succ i=>
     rw[J1,<-a i,YH];split
     . rfl
     . rw[J1,YH]
  . rename_i d s h;rw[<-h];cases i with
    |zero=>rfl
    |succ i=>rw[J1,J1,a]
theorem Lq(h:∀i,cf p i=0):Jd p=[]:=by
 induction p with
 |nil=>rfl
 |cons c t d=>
  have a:=d (λi=>by rw[<-J1 c t i];exact h (i+1));have b:c=0:=by rw[<-YM c t];exact h 0
  rw[Jd,a];show(if c=0 then []else [c])=[];rw[BH b]
theorem X3(h:∀i,cf p i=cf q i):Jd p=Jd q:=by
 induction p generalizing q with
 |nil=>rw[Lq (p:=q) λi=>by rw[<-h i,YH]];rfl
 |cons c t e=>
  cases q with
  |nil=>rw[Lq (p:=c::t) λi=>by rw[h i,YH]];rfl
  |cons d s=>
   have a:c=d:=by have:=h 0;rwa[YM,YM]at this
   have b:=e (q:=s) (λi=>by have:=h (i+1);rwa[J1,J1]at this);rw[Jd,Jd,a,b]
theorem J3(p:List Rat):Jd (Jd p)=Jd p:=X3 (Ye p)
theorem Y3(p:List Rat):(Jd p).length<=p.length:=by
 induction p with
 |nil=>exact Aa _
 |cons c t a=>
  rw[Jd];split
  . split<;>simp
  . rename_i d s h;rw[h]at a;simp only[Af]at a ⊢;omega
theorem Jt(h:Jd p=p)(f:p≠[]):cf p (p.length-1)≠0:=by
 induction p with
 |nil=>exact absurd rfl f
 |cons c t i=>
  rw[Jd]at h;split at h
  . rename_i b;split at h
    . cases h
    . rename_i a;simp only[List.cons.injEq,true_and]at h;subst h;simpa[cf]using a
  . rename_i d s b;simp only[List.cons.injEq,true_and]at h;have a:Jd t=t:=by rw[b,h]
    have g:=i a (by rw[<-h];simp);have e:(c::t).length-1=(t.length-1)+1:=by rw[<-h];simp
    rw[e,J1];exact g
theorem Nu(h:p=[]\/cf p (p.length-1)≠0):Jd p=p:=by
 induction p with
 |nil=>rfl
 |cons c t a=>
  rcases h with h|h
  . cases h
  . cases t with
    |nil=>rw[Jd];show(if c=0 then []else [c])=[c];rw[BB (by simpa[cf]using h)]
    |cons d s=>
     have e:(c::d::s).length-1=((d::s).length-1)+1:=Z
     rw[e,J1]at h;rw[Jd,a (Or.inr h)]
theorem Rf(d:n<=p.length)(a:n=0\/cf p (n-1)≠0)(c:∀j,n<=j->cf p j=0):Jd p=p.take n:=by
 have e:Jd p=Jd (p.take n):=X3 λi=>by
  rw[Lp];split
  . rfl
  . exact c i Y
 rw[e];refine Nu ?_;rcases a with a|a
 . left;rw[a];rfl
 . by_cases b:n=0
   . left;rw[b];rfl
   . right
     rw[Al,CN d,Lp,BH Y];exact a
theorem Lr(h:∀j,n<=j->cf p j=0):(Jd p).length<=n:=by
 rcases A5 n (Jd p).length with a|a
 . have b:=Jt (J3 p) (by intro c;rw[c]at a;simp at a);rw[Ye]at b;exact absurd (h _ Y) b
 . exact a
def ev:List Rat->Rat->Rat
 |[],_=>0
 |c::t,x=>c+x*ev t x
theorem Iv(h:∀i,cf p i=0)(x:Rat):ev p x=0:=by
 induction p with
 |nil=>rfl
 |cons c t d=>
  have a:=d (λi=>by rw[<-J1 c t i];exact h (i+1));have b:c=0:=by rw[<-YM c t];exact h 0
  rw[ev,a,b];grind
theorem Iw(h:∀i,cf p i=cf q i)(x:Rat):ev p x=ev q x:=by
 induction p generalizing q with
 |nil=>rw[Iv (p:=q) λi=>by rw[<-h i,YH]];rfl
 |cons c t e=>
  cases q with
  |nil=>rw[Iv (p:=c::t) λi=>by rw[h i,YH]];rfl
  |cons d s=>
   have a:c=d:=by have:=h 0;rwa[YM,YM]at this
   have b:=e (q:=s) (λi=>by have:=h (i+1);rwa[J1,J1]at this);rw[ev,ev,a,b]
theorem XC(p:List Rat)(x:Rat):ev (Jd p) x=ev p x:=Iw (Ye p) x
def dv:List Rat->Rat->Rat
 |[],_=>0
 |_::t,x=>ev t x+x*dv t x
theorem Nv(h:∀i,cf p i=0)(x:Rat):dv p x=0:=by
 induction p with
 |nil=>rfl
 |cons c t b=>
  have a:∀i,cf t i=0:=λi=>by rw[<-J1 c t i];exact h (i+1)
  rw[dv,b a,Iv a];grind
theorem Nw(h:∀i,cf p i=cf q i)(x:Rat):dv p x=dv q x:=by
 induction p generalizing q with
 |nil=>rw[Nv (p:=q) λi=>by rw[<-h i,YH]];rfl
 |cons c t b=>
  cases q with
  |nil=>rw[Nv (p:=c::t) λi=>by rw[h i,YH]];rfl
  |cons d s=>
   have a:∀i,cf t i=cf s i:=λi=>by have:=h (i+1);rwa[J1,J1]at this
   rw[dv,dv,b a,Iw a]
def GT:List Rat->Rat->List Rat
 |[],_=>[]
 |_::t,a=>match t with
  |[]=>[]
  |d::s=>ev (d::s) a::GT (d::s) a
theorem Rg(p:List Rat)(a:Rat):(GT p a).length=p.length-1:=by
 induction p with
 |nil=>rfl
 |cons c t b=>
  cases t with
  |nil=>rfl
  |cons d s=>
   rw[GT,Af,b];simp
theorem Nx(p:List Rat)(a x:Rat):ev p x=ev p a+(x-a)*ev (GT p a) x:=by
 induction p with
 |nil=>simp[ev,GT];grind
 |cons c t b=>
  cases t with
  |nil=>simp[ev,GT];grind
  |cons d s=>
   rw[GT];generalize hq:d::s=q at *;rw[ev,ev,ev,b];grind
theorem Rh{m:Nat}(h:∀n:Nat,m<=n->ev p (n:Rat)=0)(x:Rat):ev p x=0:=by
 obtain⟨k,d⟩:=ex (p.length);induction k generalizing p m with
 |zero=>
  have:p=[]:=AB d;rw[this];rfl
 |succ k j=>
  have c:=h m (Aa _);have e:∀n:Nat,m+1<=n->ev (GT p m) (n:Rat)=0:=λn o=>by
   have a:=Nx p (m:Rat) (n:Rat);rw[h n Y,c]at a;have f:((n:Rat)-(m:Rat))≠0:=by
    intro l;have g:(n:Rat)=(m:Rat):=by grind
    have:=Rat.natCast_inj.1 g;omega
   have i:((n:Rat)-(m:Rat))*ev (GT p m) n=0:=by grind
   rcases Cj.1 i with b|b
   . exact absurd b f
   . exact b
  have a:=j e (by rw[Rg,d];rfl);rw[Nx p (m:Rat) x,c,a];grind
theorem Ri(h:∀x,ev p x=0)(i:Nat):cf p i=0:=by
 induction p generalizing i with
 |nil=>rfl
 |cons c t l=>
  have b:c=0:=by have:=h 0;rw[ev]at this;grind
  have d:∀x,ev t x=0:=λx=>Rh (m:=1) (λn o=>by
   have e:=h (n:Rat);rw[ev,b]at e;have f:(n:Rat)≠0:=λg=>by
    have j:(n:Rat)=((0:Nat):Rat):=g;have:=Rat.natCast_inj.1 j;omega
   have k:(n:Rat)*ev t n=0:=by grind
   rcases Cj.1 k with a|a
   . exact absurd a f
   . exact a) x
  cases i with
  |zero=>rw[YM];exact b
  |succ i=>rw[J1];exact l d i
def XK:List Rat->List Rat->List Rat
 |[],q=>q
 |p,[]=>p
 |c::t,d::s=>(c+d)::XK t s
def YU(a:Rat)(p:List Rat):List Rat:=p.map λc=>c*a
def EW:List Rat->List Rat->List Rat
 |[],_=>[]
 |c::t,q=>XK (YU c q) (0::EW t q)
theorem Gm(p q:List Rat)(i:Nat):cf (XK p q) i=cf p i+cf q i:=by
 induction p generalizing q i with
 |nil=>rw[XK,YH];grind
 |cons c t a=>
  cases q with
  |nil=>
   rw[XK,YH]
   . grind
   . intro h;cases h
  |cons d s=>
   rw[XK];cases i with
   |zero=>simp[cf]
   |succ i=>rw[J1,J1,J1,a]
theorem ID(a:Rat)(p:List Rat)(i:Nat):cf (YU a p) i=cf p i*a:=by
 unfold cf YU;rw[Fa];cases p[i]? with
 |none=>simp
 |some c=>rfl
theorem XX(p q:List Rat)(x:Rat):ev (XK p q) x=ev p x+ev q x:=by
 induction p generalizing q with
 |nil=>rw[XK,ev];grind
 |cons c t a=>
  cases q with
  |nil=>
   rw[XK]
   . rw[show ev [] x=0 from rfl];grind
   . intro h;cases h
  |cons d s=>rw[XK,ev,ev,ev,a];grind
theorem Xt(a:Rat)(p:List Rat)(x:Rat):ev (YU a p) x=ev p x*a:=by
 induction p with
 |nil=>simp[YU,ev]
 |cons c t b=>
  rw[show YU a (c::t)=(c*a)::YU a t from rfl,ev,ev,b];grind
theorem Ls(p q:List Rat)(x:Rat):ev (EW p q) x=ev p x*ev q x:=by
 induction p with
 |nil=>rw[EW,ev];grind
 |cons c t a=>rw[EW,XX,Xt,ev,ev,a];grind
theorem Rj(p q:List Rat)(x:Rat):dv (XK p q) x=dv p x+dv q x:=by
 induction p generalizing q with
 |nil=>rw[XK,dv];grind
 |cons c t a=>
  cases q with
  |nil=>
   rw[XK]
   . rw[show dv [] x=0 from rfl];grind
   . intro h;cases h
  |cons d s=>rw[XK,dv,dv,dv,a,XX];grind
theorem Ny(a:Rat)(p:List Rat)(x:Rat):dv (YU a p) x=dv p x*a:=by
 induction p with
 |nil=>simp[YU,dv]
 |cons c t b=>
  rw[show YU a (c::t)=(c*a)::YU a t from rfl,dv,dv,b,Xt];grind
theorem Rk(p q:List Rat)(x:Rat):dv (EW p q) x=dv p x*ev q x+ev p x*dv q x:=by
 induction p with
 |nil=>rw[EW,dv,ev];grind
 |cons c t a=>rw[EW,Rj,Ny,dv,dv,ev,a,Ls];grind
theorem Ki(h:∀x,ev p x=ev q x):Jd p=Jd q:=by
 have a:∀i,cf (XK p (YU (-1) q)) i=0:=Ri (λx=>by rw[XX,Xt,h x];grind);refine X3 λi=>?_;have:=a i;rw[Gm,ID]at this;grind
def Dn:Nat->(Nat->Rat)->Rat
 |0,_=>0
 |n+1,f=>Dn n f+f n
theorem Rl{g:Nat->Rat}(h:∀k,k<n->f k=g k):Dn n f=Dn n g:=by
 induction n with
 |zero=>rfl
 |succ n a=>rw[Dn,Dn,a λk b=>h k Y,h n Y]
theorem Lt(h:∀k,k<n->f k=0):Dn n f=0:=by
 induction n with
 |zero=>rfl
 |succ n a=>rw[Dn,a λk b=>h k Y,h n Y];grind
theorem Rm(n:Nat)(f:Nat->Rat):Dn (n+1) f=f 0+Dn n (λk=>f (k+1)):=by
 induction n with
 |zero=>simp[Dn];grind
 |succ n a=>rw[Dn,a,Dn];grind
def conv(p q:List Rat)(n k:Nat):Rat:=Dn n λi=>if i<=k then cf p i*cf q (k-i)else 0
theorem Ix(p q:List Rat)(k:Nat):cf (EW p q) k=conv p q p.length k:=by
 induction p generalizing k with
 |nil=>rfl
 |cons c t b=>
  rw[EW,Gm,ID,conv,Af,Rm];rw[BH (AV _),YM,Fu];have e:cf (0::EW t q) k=Dn t.length (λi=>if i+1<=k then cf (c::t) (i+1)*cf q (k-(i+1))else 0):=by
   cases k with
   |zero=>
    rw[YM,Lt];intro i a;rw[BB Y]
   |succ k=>
    rw[J1,b,conv];refine Rl λi a=>?_;by_cases h:i<=k
    . rw[BH h,BH Y,J1,show k+1-(i+1)=k-i from by omega]
    . rw[BB h,BB Y]
  rw[e];grind
theorem Rn(p q:List Rat)(h:p.length<=n):conv p q n k=conv p q p.length k:=by
 induction n with
 |zero=>rw[show p.length=0 from by omega]
 |succ n b=>
  by_cases a:p.length=n+1
  . rw[a]
  . rw[<-b Y];show conv p q n k+_=_
    dsimp only;rw[Yj (show p.length<=n from by omega)];split<;>grind
theorem Ro(h:p.length+q.length<=k+1):cf (EW p q) k=0:=by
 rw[Ix];refine Lt λi a=>?_;split
 . rw[Yj (p:=q) Y];grind
 . rfl
theorem Lu(p q:List Rat)(m n:Nat)(hp:p.length=m+1)(hq:q.length=n+1):cf (EW p q) (m+n)=cf p m*cf q n:=by
 rw[Ix,hp,conv,Dn,BH Y,show m+n-m=n from by omega];rw[Lt]
 . grind
 . intro i a;split
   . rw[Yj (p:=q) Y];grind
   . rfl
theorem Nz(hp:Jd p=p)(hq:Jd q=q)(d:p≠[])(e:q≠[]):(Jd (EW p q)).length=p.length+q.length-1:=by
 have f:=Jt hp d;have g:=Jt hq e;have l1:0<p.length:=Ah.2 d;have l2:0<q.length:=Ah.2 e;have i:=Lu p q (p.length-1) (q.length-1) Y Y;have b:cf (EW p q) (p.length-1+(q.length-1))≠0:=by
  rw[i];intro c;rcases Cj.1 c with a|a
  . exact f a
  . exact g a
 have c:(Jd (EW p q)).length<=p.length+q.length-1:=Lr λj k=>Ro Y;rcases A5 (Jd (EW p q)).length (p.length+q.length-1)with a|a
 . rw[<-Ye]at b;exact absurd (Yj Y) b
 . omega
def Hf(p:List Rat):List Rat:=(List.range (p.length-1)).map λi=>cf p (i+1)*((i+1:Nat):Rat)
theorem IE(p:List Rat)(i:Nat):cf (Hf p) i=cf p (i+1)*((i+1:Nat):Rat):=by
 unfold Hf;rw[Lo];split
 . rfl
 . rw[Yj Y];grind
theorem Rp(p:List Rat)(x:Rat):ev (Hf p) x=dv p x:=by
 induction p with
 |nil=>rfl
 |cons c t a=>
  have e:∀i,cf (Hf (c::t)) i=cf (XK t (0::Hf t)) i:=λi=>by
   rw[IE,Gm,J1];cases i with
   |zero=>rw[YM];grind
   |succ i=>rw[J1,IE];grind
  rw[Iw e,XX,ev,a,dv];grind
theorem Rq(p:List Rat):XK p []=p:=by cases p<;>rfl
theorem Rr{u v a b:List Rat}(hq:Jd q=q)(r:q≠[])(s:Jd u=u)(t:Jd a=a)(w:Jd v=v)(y:Jd b=b)(C:v.length<q.length)(D:b.length<q.length)
(h:∀x,ev q x*ev u x+ev v x=ev q x*ev a x+ev b x):u=a/\v=b:=by
 obtain⟨d,g⟩:=ex (Jd (XK u (YU (-1) a)));have k:Jd d=d:=by rw[<-g,J3]
 have e:∀x,ev d x=ev u x-ev a x:=λx=>by rw[<-g,XC,XX,Xt];grind
 have l:∀x,ev (EW d q) x=ev (XK b (YU (-1) v)) x:=λx=>by
  rw[Ls,XX,Xt,e];have:=h x;grind
 have o:=Ki l;have z:(Jd (XK b (YU (-1) v))).length<q.length:=by
  refine Cl (Lr (n:=q.length-1) λj B=>?_) Y;rw[Gm,ID,Yj Y,Yj Y];grind
 have i:d=[]:=by
  by_cases c:d=[]
  . exact c
  . have p:=Nz k hq c r;have A:0<d.length:=Ah.2 c;rw[o]at p;omega
 have m:∀x,ev u x=ev a x:=λx=>by
  have:=e x;rw[i,show ev [] x=0 from rfl]at this;grind
 have f:u=a:=by rw[<-s,<-t];exact Ki m
 refine⟨f,?_⟩;rw[<-w,<-y];exact Ki λx=>by
  have:=h x;rw[f]at this;grind
def E2(i:Nat)(q:List Rat):List Rat:=List.replicate i 0++q
theorem Kj(i:Nat)(q:List Rat)(k:Nat):cf (E2 i q) k=if i<=k then cf q (k-i)else 0:=by
 unfold cf E2;by_cases h:k<i
 . rw[Ca (by simpa using h),BB Y,List.getElem?_replicate];split<;>rfl
 . rw[AW si,BH Y];simp
theorem N0(i:Nat)(q:List Rat)(x:Rat):ev (E2 i q) x=x^i*ev q x:=by
 induction i with
 |zero=>rw[show E2 0 q=q from rfl];grind
 |succ i a=>
  rw[show E2 (i+1) q=0::E2 i q from rfl,ev,a];grind
def YE(z:List Rat)(i:Nat)(a:Rat)(q:List Rat):Nat->List Rat
 |0=>z
 |j+1=>(YE z i a q j).set (i+j) (cf (YE z i a q j) (i+j)+a*cf q j)
theorem Yu(z:List Rat)(i:Nat)(a:Rat)(q:List Rat)(j:Nat):(YE z i a q j).length=z.length:=by
 induction j with
 |zero=>rfl
 |succ j b=>rw[YE,CK,b]
theorem Rs(z:List Rat)(i:Nat)(a:Rat)(q:List Rat)(j k:Nat)(h:i+j<=z.length):cf (YE z i a q j) k=cf z k+(if i<=k/\k<i+j then a*cf q (k-i)else 0):=by
 induction j with
 |zero=>rw[YE,BB Y];grind
 |succ j b=>
  have b:=b Y;rw[YE,XN _ _ _ _ (by rw[Yu];omega)];by_cases c:k=i+j
  . subst c;rw[BH rfl,b,BB Y,BH Y,show i+j-i=j from by omega];grind
  . rw[BB c,b];by_cases d:i<=k/\k<i+j
    . rw[BH d,BH Y]
    . rw[BB d,BB Y]
theorem Lv(z:List Rat)(i:Nat)(a:Rat)(q:List Rat)(k:Nat)(h:i+q.length<=z.length):cf (YE z i a q q.length) k=cf z k+a*cf (E2 i q) k:=by
 rw[Rs _ _ _ _ _ _ h,Kj];by_cases b:i<=k
 . by_cases c:k<i+q.length
   . rw[BH ⟨b,c⟩,BH b]
   . rw[BB Y,BH b,Yj (p:=q) Y];grind
 . rw[BB Y,BB b];grind
theorem Rt(z:List Rat)(i:Nat)(a:Rat)(q:List Rat)(x:Rat)(h:i+q.length<=z.length):ev (YE z i a q q.length) x=ev z x+a*(x^i*ev q x):=by
 have e:∀k,cf (YE z i a q q.length) k=cf (XK z (YU a (E2 i q))) k:=λk=>by
  rw[Lv _ _ _ _ _ h,Gm,ID];grind
 rw[Iw e,XX,Xt,N0];grind
def XM(p q:List Rat)(n:Nat):Nat->List Rat
 |0=>List.replicate n 0
 |i+1=>YE (XM p q n i) i (cf p i) q q.length
theorem Lw(p q:List Rat)(n i:Nat):(XM p q n i).length=n:=by
 induction i with
 |zero=>rw[XM,Aw]
 |succ i a=>rw[XM,Yu,a]
theorem N1(p q:List Rat)(n i k:Nat)(h:i=0\/i+q.length<=n+1):cf (XM p q n i) k=conv p q i k:=by
 induction i with
 |zero=>rw[XM,JW];rfl
 |succ i a=>
  rw[XM,Lv _ _ _ _ _ (by rw[Lw];omega),a Y,Kj];show _=conv p q i k+_
  dsimp only;split<;>grind
def JB(p q:List Rat)(n m:Nat):Nat->List Rat × List Rat
 |0=>(List.replicate m 0,p)
 |k+1=>
  let s:=JB p q n m k
  let i:=m-(k+1)
  let c:=cf s.2 (i+n)/cf q n
  (s.1.set i c,YE s.2 i (-c) q q.length)
theorem YO(p q:List Rat)(n m k:Nat):(JB p q n m k).1.length=m/\(JB p q n m k).2.length=p.length:=by
 induction k with
 |zero=>exact⟨Aw,rfl⟩
 |succ k a=>rw[JB];exact⟨by rw[CK];exact a.1,by rw[Yu];exact a.2⟩
theorem Ru(p:List Rat)(i:Nat)(c:Rat)(x:Rat)(d:i<p.length)(b:cf p i=0):ev (p.set i c) x=ev p x+c*x^i:=by
 have e:∀k,cf (p.set i c) k=cf (XK p (E2 i [c])) k:=λk=>by
  rw[XN _ _ _ _ d,Gm,Kj];by_cases h:k=i
  . subst h;rw[BH rfl,BH (Aa _),b,Cx,YM];grind
  . rw[BB h];by_cases a:i<=k
    . rw[BH a,Yj (p:=[c]) si];grind
    . rw[BB a];grind
 rw[Iw e,XX,N0];simp[ev];grind
theorem N2(p q:List Rat)(n m:Nat)(hq:q.length=n+1)(hl:cf q n≠0)(v:m+n=p.length):∀k,k<=m->
 (∀x,ev p x=ev q x*ev (JB p q n m k).1 x+ev (JB p q n m k).2 x)/\(∀j,j<m-k->cf (JB p q n m k).1 j=0)/\(∀j,m-k+n<=j->cf (JB p q n m k).2 j=0):=by
 intro k;induction k with
 |zero=>
  intro _;refine⟨λx=>?_,λj _=>JW _ _,λj e=>Yj (by show p.length<=j;omega)⟩;rw[JB];dsimp only;rw[Iv (JW m)];grind
 |succ k r=>
  intro u;obtain⟨f,b,g⟩:=r Y;obtain⟨l1,l2⟩:=YO p q n m k;rw[JB];dsimp only;generalize w:JB p q n m k=s at *;obtain⟨i,o⟩:=ex (m-(k+1));rw[o];obtain⟨c,d⟩:=ex (cf s.2 (i+n)/cf q n);rw[d];have a:i+q.length<=s.2.length:=Y
  have t:c*cf q n=cf s.2 (i+n):=by rw[<-d];exact Ap hl
  refine⟨λx=>?_,λj e=>?_,λj e=>?_⟩
  . rw[Ru _ _ _ _ Y (b i Y),Rt _ _ _ _ _ a,f x];grind
  . rw[XN _ _ _ _ Y,BB Y];exact b j Y
  . rw[Lv _ _ _ _ _ a,Kj,BH Y];by_cases l:j=i+n
    . subst l;rw[show i+n-i=n from by omega];grind
    . rw[g j Y,Yj (p:=q) Y];grind
def Js(p q:List Rat):List Rat:=Jd (JB p q (q.length-1) (p.length-(q.length-1)) (p.length-(q.length-1))).1
def JH(p q:List Rat):List Rat:=Jd (JB p q (q.length-1) (p.length-(q.length-1)) (p.length-(q.length-1))).2
theorem YP(p q:List Rat)(hq:Jd q=q)(a:q≠[]):(∀x,ev p x=ev q x*ev (Js p q) x+ev (JH p q) x)/\(JH p q).length<q.length/\Jd (Js p q)=Js p q/\Jd (JH p q)=JH p q:=by
 have l1:0<q.length:=Ah.2 a;refine⟨λx=>?_,?_,J3 _,J3 _⟩
 . unfold Js JH;rw[XC,XC];by_cases h:q.length-1<=p.length
   . exact(N2 p q (q.length-1) (p.length-(q.length-1)) Y (Jt hq a) Y _ (Aa _)).1 x
   . rw[show p.length-(q.length-1)=0 from by omega,JB];dsimp only;rw[Iv (JW 0)];grind
 . unfold JH;refine Cl (Lr (n:=q.length-1) λj b=>?_) Y;by_cases h:q.length-1<=p.length
   . exact(N2 p q (q.length-1) (p.length-(q.length-1)) Y (Jt hq a) Y _ (Aa _)).2.2 j Y
   . rw[show p.length-(q.length-1)=0 from by omega,JB];exact Yj (by dsimp only;omega)
def XA(p q:List Rat):List Rat:=Jd (XK p q)
def Ym(p q:List Rat):List Rat:=Jd (XK p (YU (-1) q))
def Jm(p q:List Rat):List Rat:=Jd (EW p q)
def Jc(p:List Rat):List Rat:=Jd (Hf p)
theorem IF(p q:List Rat):Jd (XA p q)=XA p q:=J3 _
theorem Xu(p q:List Rat):Jd (Ym p q)=Ym p q:=J3 _
theorem JY(p q:List Rat):Jd (Jm p q)=Jm p q:=J3 _
theorem JF(p:List Rat):Jd (Jc p)=Jc p:=J3 _
theorem YA(p q:List Rat)(x:Rat):ev (XA p q) x=ev p x+ev q x:=by unfold XA;rw[XC,XX]
theorem Y1(p q:List Rat)(x:Rat):ev (Ym p q) x=ev p x-ev q x:=by unfold Ym;rw[XC,XX,Xt];grind
theorem Jh(p q:List Rat)(x:Rat):ev (Jm p q) x=ev p x*ev q x:=by unfold Jm;rw[XC,Ls]
theorem Xv(p:List Rat)(x:Rat):ev (Jc p) x=dv p x:=by unfold Jc;rw[XC,Rp]
theorem Rv(p q:List Rat)(i:Nat):cf (XA p q) i=cf p i+cf q i:=by unfold XA;rw[Ye,Gm]
theorem Lx(p q:List Rat)(i:Nat):cf (Ym p q) i=cf p i-cf q i:=by unfold Ym;rw[Ye,Gm,ID];grind
theorem Rw(p q:List Rat):(XK p q).length=max p.length q.length:=by
 induction p generalizing q with
 |nil=>rw[XK];simp
 |cons c t a=>
  cases q with
  |nil=>rw[Rq];simp
  |cons d s=>rw[XK,Af,a,Af,Af];omega
theorem Rx(p q:List Rat):(XA p q).length<=max p.length q.length:=by
 have:=Y3 (XK p q);rw[Rw]at this;exact this
theorem XD(hp:Jd p=p)(hq:Jd q=q)(h:∀x,ev p x=ev q x):p=q:=by rw[<-hp,<-hq];exact Ki h
theorem Ry(p q:List Rat):Jc (Jm p q)=XA (Jm (Jc p) q) (Jm p (Jc q)):=by
 refine XD (JF _) (IF _ _) λx=>?_;rw[Xv,YA,Jh,Jh,Xv,Xv,<-Rk];exact Nw (λi=>by unfold Jm;rw[Ye]) x
theorem Yv(a b:Rat):a<=b\/b<=a:=Rat.le_total
theorem YF{a b:Rat}(c:0<a)(d:0<b):0<a/b:=by
 have e:a/b*b=a:=Ap (by grind);rcases Yv (a/b) 0 with h|h
 . have:=Rat.mul_nonneg (a:=-(a/b)) (b:=b) (by grind) (by grind);grind
 . rcases Rat.le_iff_lt_or_eq.1 h with h|h
   . exact h
   . rw[<-h]at e;grind
theorem Rz{U V:Rat}(a:-U<=u)(b:u<=U)(c:-V<=v)(d:v<=V):-(U*V)<=u*v/\u*v<=U*V:=by
 have e:=Rat.mul_nonneg (a:=U-u) (b:=V+v) (by grind) (by grind);have f:=Rat.mul_nonneg (a:=U+u) (b:=V-v) (by grind) (by grind);have g:=Rat.mul_nonneg (a:=U-u) (b:=V-v) (by grind) (by grind);have i:=Rat.mul_nonneg (a:=U+u) (b:=V+v) (by grind) (by grind);constructor<;>grind
def Wi(K u:Rat):Prop:=-K<=u/\u<=K
theorem Wi.mul(h:Wi K u)(a:Wi L v):Wi (K*L) (u*v):=Rz h.1 h.2 a.1 a.2
theorem Wi.add(h:Wi K u)(a:Wi L v):Wi (K+L) (u+v):=by have:=h.1;have:=h.2;have:=a.1;have:=a.2;constructor<;>grind
theorem Wi.mono(h:Wi K u)(hl:K<=L):Wi L u:=by have:=h.1;have:=h.2;constructor<;>grind
theorem Iy(c:Rat)(p:List Rat)(x:Rat):ev (c::p) x=c+x*ev p x:=rfl
theorem XY(c:Rat):∃K,0<K/\Wi K c:=by
 rcases Yv 0 c with h|h
 . exact⟨c+1,by grind,by constructor<;>grind⟩
 . exact⟨-c+1,by grind,by constructor<;>grind⟩
theorem XE(p:List Rat)(b:0<=B):∃K,0<K/\∀x,Wi B x->Wi K (ev p x):=by
 induction p with
 |nil=>exact⟨1,DI,λx _=>⟨by simp[ev];grind,by simp[ev];grind⟩⟩
 |cons c p f=>
  obtain⟨K,d,h⟩:=f;obtain⟨C,g,e⟩:=XY c;have:=Rat.mul_nonneg b (Rat.le_of_lt d);exact⟨C+B*K,by grind,λx a=>e.add (a.mul (h x a))⟩
theorem R1(p:List Rat)(a:0<=B):∃K,0<K/\∀x y,Wi B x->Wi B y->x<=y->Wi (K*(y-x)) (ev p x-ev p y):=by
 induction p with
 |nil=>exact⟨1,DI,λx y _ _ d=>⟨by simp[ev];grind,by simp[ev];grind⟩⟩
 |cons c p l=>
  obtain⟨K,j,h⟩:=l;obtain⟨C,m,k⟩:=XE p a;refine⟨C+B*K+1,by have:=Rat.mul_nonneg a (Rat.le_of_lt j);grind,λx y b f d=>?_⟩;have g:Wi (y-x) (x-y):=⟨by grind,by grind⟩;have i:=(g.mul (k x b)).add (f.mul (h x y b f d));have e:ev (c::p) x-ev (c::p) y=(x-y)*ev p x+y*(ev p x-ev p y):=by rw[Iy,Iy];grind
  rw[e];refine i.mono ?_;grind
def Sh(B:Rat)(P:Rat->Rat->Prop):Prop:=∃d,0<d/\∀x y,Wi B x->Wi B y->x<=y->y-x<=d->P x y
section
variable {B:Rat} {P Q:Rat->Rat->Prop}
theorem Sh.and(h:Sh B P)(f:Sh B Q):Sh B λx y=>P x y/\Q x y:=by
 obtain⟨d,d0,h⟩:=h;obtain⟨e,g,f⟩:=f;rcases Yv d e with i|i
 . exact⟨d,d0,λx y a b c l=>⟨h x y a b c l,f x y a b c (by grind)⟩⟩
 . exact⟨e,g,λx y a b c l=>⟨h x y a b c (by grind),f x y a b c l⟩⟩
theorem Sh.mono(h:Sh B P)(e:∀x y,Wi B x->Wi B y->x<=y->P x y->Q x y):Sh B Q:=by
 obtain⟨d,d0,h⟩:=h;exact⟨d,d0,λx y a b c l=>e x y a b c (h x y a b c l)⟩
theorem Sh.all(h:∀x y,Wi B x->Wi B y->x<=y->P x y):Sh B P:=⟨1,DI,λx y a b c _=>h x y a b c⟩
end
def Dl(p:List Rat)(x y:Rat):Prop:=0<ev p x*ev p y
theorem Gn(p:List Rat){B e:Rat}(n:0<=B)(o:0<e):Sh B λx y=>¬Dl p x y->Wi e (ev p x)/\Wi e (ev p y):=by
 obtain⟨K,j,h⟩:=R1 p n;refine⟨e/K,YF o j,λx y a b c l q=>?_⟩;have k:=h x y a b c;have m:K*(y-x)<=e:=by
  have:=Rat.mul_le_mul_of_nonneg_left l (Rat.le_of_lt j);have r:K*(e/K)=e:=by rw[CI,Ap (by grind)]
  grind
 have i:=k.mono m;have u:ev p x*ev p y<=0:=Rat.not_lt.1 q;have s:=i.1;have t:=i.2;rcases Yv 0 (ev p x)with f|f<;>rcases Yv 0 (ev p y)with g|g
 . rcases Rat.le_iff_lt_or_eq.1 f with d|d
   . rcases Rat.le_iff_lt_or_eq.1 g with q2|q2
     . have:=Rat.mul_pos d q2;grind
     . constructor<;>constructor<;>grind
   . constructor<;>constructor<;>grind
 . constructor<;>constructor<;>grind
 . constructor<;>constructor<;>grind
 . rcases Rat.le_iff_lt_or_eq.1 f with d|d
   . rcases Rat.le_iff_lt_or_eq.1 g with q2|q2
     . have:=Rat.mul_pos (a:=- ev p x) (b:=- ev p y) (by grind) (by grind);grind
     . constructor<;>constructor<;>grind
   . constructor<;>constructor<;>grind
end
section
def EL:Rat->List Rat->Nat
 |_,[]=>0
 |a,b::l=>if b=0 then EL a l else(if a*b<0 then 1 else 0)+EL b l
def DP(l:List Rat):Nat:=EL 0 l
def JM(l:List (List Rat))(x:Rat):List Rat:=l.map λp=>ev p x
variable{a b:Rat}
theorem JZ(p:List Rat)(l:List (List Rat))(x:Rat):JM (p::l) x=ev p x::JM l x:=rfl
theorem R3(h:a<0)(c:0<=b):a*b<=0:=by
 have:=Rat.mul_nonneg (a:=-a) (b:=b) (by grind) c;grind
theorem N3(h:a<0)(c:0<=b)(d:0<a*b):False:=by have:=R3 h c;grind
theorem Ly{c d:Rat}(h:0<a*c)(j:0<b*d):a*b<0↔c*d<0:=by
 have g:0<(a*b)*(c*d):=by have:=Rat.mul_pos h j;grind
 constructor
 . intro i;rcases Yv 0 (c*d)with e|e
   . exact(N3 i e g).elim
   . rcases Rat.le_iff_lt_or_eq.1 e with f|f
     . exact f
     . rw[f]at g;grind
 . intro i;rcases Yv 0 (a*b)with e|e
   . exact(N3 i e (by rw[CI];exact g)).elim
   . rcases Rat.le_iff_lt_or_eq.1 e with f|f
     . exact f
     . rw[f]at g;grind
theorem Ya(h:0<a*b):a≠0/\b≠0:=⟨λe=>by rw[e]at h;grind,λe=>by rw[e]at h;grind⟩
theorem R4(h:a*b<0):a≠0/\b≠0:=⟨λe=>by rw[e]at h;grind,λe=>by rw[e]at h;grind⟩
theorem XF(h:b≠0)(l:List Rat):EL a (b::l)=(if a*b<0 then 1 else 0)+EL b l:=by
 rw[EL,BB h]
theorem N8{g h:Rat}(i:a*h<0)(l:List Rat):EL a (g::h::l)=1+EL h l:=by
 obtain⟨m,f⟩:=R4 i;by_cases d:g=0
 . rw[EL,BH d,XF f,BH i]
 . rw[XF d,XF f];have j:0<g*g:=by
    rcases Yv 0 g with e|e
    . rcases Rat.le_iff_lt_or_eq.1 e with c|c
      . exact Rat.mul_pos c c
      . exact absurd c.symm d
    . rcases Rat.le_iff_lt_or_eq.1 e with c|c
      . have:=Rat.mul_pos (a:=-g) (b:=-g) (by grind) (by grind);grind
      . exact absurd c d
   have k:(a*g)*(g*h)<0:=by
    have:=Rat.mul_pos (a:=-(a*h)) (b:=g*g) (by grind) j;grind
   by_cases p:a*g<0
   . have:¬g*h<0:=λq=>by
      have:=Rat.mul_pos (a:=-(a*g)) (b:=-(g*h)) (by grind) (by grind);grind
     rw[BH p,BB this];omega
   . have:g*h<0:=by
      rcases Yv 0 (g*h)with q|q
      . have:=Rat.mul_nonneg (a:=a*g) (b:=g*h) (Rat.not_lt.1 p) q;grind
      . rcases Rat.le_iff_lt_or_eq.1 q with q|q
        . exact q
        . rw[q]at k;grind
     rw[BB p,BH this];omega
inductive Gd(x y:Rat):List (List Rat)->Prop
 |one {f:List Rat}:Dl f x y->Gd x y [f]
 |two {f g:List Rat}:Dl g x y->Gd x y [f,g]
 |more {f g h:List Rat} {l:List (List Rat)}:(Dl f x y\/Dl g x y)->(¬Dl g x y->ev f x*ev h x<0/\ev f y*ev h y<0)->Gd x y (g::h::l)->Gd x y (f::g::h::l)
section
variable {x y:Rat}
theorem Gd.adj{f g:List Rat}{l:List (List Rat)}(h:Gd x y (f::g::l)):Dl f x y\/Dl g x y:=by
 cases h with
 |two h=>exact Or.inr h
 |more h _ _=>exact h
theorem Gd.tail{f g:List Rat}{l:List (List Rat)}(h:Gd x y (f::g::l)):Gd x y (g::l):=by
 cases h with
 |two h=>exact Gd.one h
 |more _ _ h=>exact h
theorem Gd.same:∀(n:Nat) (l:List (List Rat)) (f:List Rat),l.length<=n->Gd x y (f::l)->Dl f x y->EL (ev f x) (JM l x)=EL (ev f y) (JM l y):=by
 intro n;induction n with
 |zero=>
  intro l f hl _ _;have:l=[]:=AM.1 Y;subst this;rfl
 |succ n d=>
  intro l f hl a e;match l,hl,a with
  |[],_,_=>rfl
  |g::l,hl,a=>
   by_cases b:Dl g x y
   . obtain⟨j,k⟩:=Ya b;rw[JZ,JZ,XF j,XF k,d l g (by simp at hl;omega) a.tail b];have:=Ly e b;by_cases p:ev f x*ev g x<0
     . rw[BH p,BH (this.1 p)]
     . rw[BB p,BB λq=>p (this.2 q)]
   . match l,hl,a with
     |[],_,a=>cases a with|two h=>exact absurd h b
     |h::l,hl,a=>
      have i:Dl h x y:=(a.tail.adj).resolve_left b;have c:ev f x*ev h x<0/\ev f y*ev h y<0:=by
       cases a with|more _ c _=>exact c b
      rw[JZ,JZ,JZ,JZ,N8 c.1,N8 c.2,d l h (by simp at hl;omega) a.tail.tail i]
variable{a:Rat}
theorem Lz(h:a≠0)(l:List Rat):DP (a::l)=EL a l:=by
 unfold DP;rw[XF h,CC,BB DI];omega
theorem IG{b:Rat}(h:b≠0)(l:List Rat):DP (a::b::l)=(if a*b<0 then 1 else 0)+EL b l:=by
 by_cases c:a=0
 . rw[DP,EL,BH c,c,CC,XF h,CC]
 . rw[Lz c,XF h]
theorem Gd.stay{f:List Rat}{l:List (List Rat)}(h:Gd x y (f::l))(a:Dl f x y):DP (JM (f::l) x)=DP (JM (f::l) y):=by
 obtain⟨b,c⟩:=Ya a;rw[JZ,JZ,Lz b,Lz c];exact h.same _ l f (Aa _) a
theorem Gd.both{f g:List Rat}{l m:List (List Rat)}(h:Gd x y (f::l))(c:Gd x y (g::m)){k:Rat}(B:k≠0)(w:∀x,ev f x=k*ev g x)
(v:¬Dl g x y->∀f1 l1 d o,l=f1::l1->m=d::o->0<k*ev f1 x*ev d x/\0<k*ev f1 y*ev d y):
 DP (JM (f::l) x)+DP (JM (g::m) y)=DP (JM (f::l) y)+DP (JM (g::m) x):=by
 have H:0<k*k:=by
  rcases Yv 0 k with i|i
  . rcases Rat.le_iff_lt_or_eq.1 i with c|c
    . exact Rat.mul_pos c c
    . exact absurd c.symm B
  . rcases Rat.le_iff_lt_or_eq.1 i with c|c
    . have:=Rat.mul_pos (a:=-k) (b:=-k) (by grind) (by grind);grind
    . exact absurd c B
 have A:ev f x*ev f y=(k*k)*(ev g x*ev g y):=by rw[w,w];grind
 by_cases j:Dl g x y
 . have n:Dl f x y:=by unfold Dl at *;rw[A];exact Rat.mul_pos H j
   have:=h.stay n;have:=c.stay j;omega
 . have n:¬Dl f x y:=λq=>j (by
    unfold Dl at *;rw[A]at q;rcases Yv (ev g x*ev g y) 0 with r|r
    . have:=Rat.mul_nonneg (a:=k*k) (b:=-(ev g x*ev g y)) (by grind) (by grind);grind
    . rcases Rat.le_iff_lt_or_eq.1 r with r|r
      . exact r
      . rw[<-r]at q;grind)
   match l,m,h,c,v j with
   |[],_,h,_,_=>cases h with|one h=>exact absurd h n
   |_::_,[],_,c,_=>cases c with|one h=>exact absurd h j
   |f1::l1,d::o,h,c,v=>
    obtain⟨N,P⟩:=v f1 l1 d o rfl rfl;have C:=(h.adj).resolve_left n;have D:=(c.adj).resolve_left j;obtain⟨I,K⟩:=Ya C;obtain⟨L,M⟩:=Ya D;rw[JZ,JZ,JZ,JZ,JZ,JZ,JZ,JZ,IG I,IG K,IG L,IG M,h.tail.same _ l1 f1 (Aa _) C,c.tail.same _ o d (Aa _) D];have t:∀z,0<k*ev f1 z*ev d z->(ev f z*ev f1 z<0↔ev g z*ev d z<0):=λz G=>by
     have E:ev f z*ev f1 z=ev g z*(k*ev f1 z):=by rw[w];grind
     rw[E];by_cases u:ev g z=0
     . rw[u];grind
     . have F:0<ev g z*ev g z:=by
        rcases Yv 0 (ev g z)with i|i
        . rcases Rat.le_iff_lt_or_eq.1 i with c|c
          . exact Rat.mul_pos c c
          . exact absurd c.symm u
        . rcases Rat.le_iff_lt_or_eq.1 i with c|c
          . have:=Rat.mul_pos (a:=-(ev g z)) (b:=-(ev g z)) (by grind) (by grind);grind
          . exact absurd c u
       exact Ly F G
    have p:=t x N;have s:=t y P;by_cases e:ev g x*ev d x<0<;>by_cases q2:ev g y*ev d y<0
    . rw[BH e,BH q2,BH (p.2 e),BH (s.2 q2)]
    . rw[BH e,BB q2,BH (p.2 e),BB λq=>q2 (s.1 q)];omega
    . rw[BB e,BH q2,BB λq=>e (p.1 q),BH (s.2 q2)];omega
    . rw[BB e,BB q2,BB λq=>e (p.1 q),BB λq=>q2 (s.1 q)]
end
end
inductive StC:List (List Rat)->Prop
 |one {f:List Rat} {c:Rat}:c≠0->(∀x,ev f x=c)->StC [f]
 |two {f g:List Rat} {c:Rat}:c≠0->(∀x,ev g x=c)->StC [f,g]
 |more {f g h q:List Rat} {l:List (List Rat)} {a c:Rat}:0<a->0<c->(∀x,a*ev f x=ev q x*ev g x-c*ev h x)->StC (g::h::l)->StC (f::g::h::l)
variable{p:List Rat}{B U V a e i u v w y:Rat}
theorem Gp:(0:Rat)<1/4:=by grind
theorem Jy(c x:Rat):ev [c] x=c:=by simp[ev];grind
theorem Iz{f:List Rat}{c:Rat}(g:c≠0)(h:∀x,ev f x=c)(x y:Rat):Dl f x y:=by
 unfold Dl;rw[h,h];rcases Yv 0 c with e|e
 . rcases Rat.le_iff_lt_or_eq.1 e with d|d
   . exact Rat.mul_pos d d
   . exact absurd d.symm g
 . rcases Rat.le_iff_lt_or_eq.1 e with d|d
   . have:=Rat.mul_pos (a:=-c) (b:=-c) (by grind) (by grind);grind
   . exact absurd d g
theorem StC.cop{f g:List Rat}{l:List (List Rat)}(h:StC (f::g::l)):∃u v:List Rat,∀x,ev u x*ev f x+ev v x*ev g x=1:=by
 match l,h with
 |[],h=>
  cases h with
  |two d b=>
   rename_i c;refine⟨[],[1/c],λx=>?_⟩;rw[b,Jy];have:1/c*c=1:=Ap d;simp[ev];grind
 |h::l,n=>
  cases n with
  |more s d b o=>
   rename_i q a c;obtain⟨u,v,p⟩:=StC.cop o;have e:c≠0:=by grind
   refine⟨Jm [-(a/c)] v,XA u (Jm [1/c] (Jm v q)),λx=>?_⟩;rw[Jh,YA,Jh,Jh,Jy,Jy];have i:=p x;have r:=b x;have j:1/c*c=1:=Ap e;have k:a/c=1/c*a:=by rw[Fi,Fi,CG,CI]
   rw[k];have m:ev h x=1/c*(ev q x*ev g x-a*ev f x):=by
    have:ev h x=1/c*(c*ev h x):=by rw[<-Rat.mul_assoc,j,CG]
    rw[this];congr 1;grind
   rw[m]at i;grind
termination_by l.length
theorem L0{f g:Rat}(h:u*f+v*g=1)(b:Wi U u)(a:Wi e f)(c:U*e<=1/4):3/4<=v*g:=by
 have:=(b.mul a).2;grind
theorem StC.gd{l:List (List Rat)}(h:StC l)(j:0<=B):Sh B λx y=>Gd x y l:=by
 induction h with
 |one n m=>exact Sh.all λx y _ _ _=>Gd.one (Iz n m x y)
 |two n m=>exact Sh.all λx y _ _ _=>Gd.two (Iz n m x y)
 |more ha n m k A=>
  rename_i f g h q l a c;obtain⟨u,v,ai⟩:=(StC.more ha n m k).cop;obtain⟨u2,D,aj⟩:=k.cop;obtain⟨U1,P,ad⟩:=XE u j;obtain⟨U2,R,ae⟩:=XE v j;obtain⟨U3,S,af⟩:=XE u2 j;obtain⟨i,C,ah⟩:=XE D j;obtain⟨Q,T,X⟩:=XE q j;have d:∀ {r K:Rat},0<r->0<K->K*(r/K)=r:=λ_ hK=>by rw[CI,Ap (by grind)]
  have E:=(((Gn f j (YF Gp P)).and (Gn g j (YF Gp R))).and ((Gn g j (YF Gp S)).and (Gn g j (YF (YF (show(0:Rat)<c/2 by grind) C) T)))).and A;refine E.mono λx y t hy ak ⟨⟨⟨tf,tg⟩,V,W⟩,A⟩=>?_;refine Gd.more ?_ (λk=>?_) A
  . by_cases U:Dl f x y
    . exact Or.inl U
    . by_cases sg:Dl g x y
      . exact Or.inr sg
      . exfalso
        have G:=L0 (ai x) (ad x t) (tf U).1 (by rw[d Gp P];exact Rat.le_refl);have o:=((ae x t).mul (tg sg).1).2;rw[d Gp R]at o;grind
  . have N:∀z,Wi B z->Wi (1/4/U3) (ev g z)->Wi (c/2/i/Q) (ev g z)->ev f z*ev h z<0:=λz w w1 w2=>by
     have G:=L0 (aj z) (af z w) w1 (by rw[d Gp S];exact Rat.le_refl);have o:=(X z w).mul w2;rw[d (YF (show(0:Rat)<c/2 by grind) C) T]at o;have H:=m z;have I:=ah z w;have L:Wi (c/2) (i*(ev q z*ev g z)):=by
      have:=(show Wi i i from⟨by grind,by grind⟩).mul o;rwa[d (show(0:Rat)<c/2 by grind) C]at this
     have F:ev h z≠0:=λe=>by rw[e]at G;grind
     rcases Yv 0 (ev h z)with s|s
     . have s:0<ev h z:=by
        rcases Rat.le_iff_lt_or_eq.1 s with s|s
        . exact s
        . exact absurd s.symm F
       have h6:3/4<=i*ev h z:=by
        have:=Rat.mul_nonneg (a:=i-ev D z) (b:=ev h z) (by have:=I.2;grind) (by grind);grind
       have p:i*(a*ev f z)<0:=by
        rw[H];have:=Rat.mul_nonneg (a:=c) (b:=i*ev h z-3/4) (by grind) (by grind);have:=L.2;grind
       have M:ev f z<0:=by
        rcases Yv 0 (ev f z)with r|r
        . have:=Rat.mul_nonneg (a:=i*a) (b:=ev f z) (Rat.mul_nonneg (by grind) (by grind)) r;grind
        . rcases Rat.le_iff_lt_or_eq.1 r with r|r
          . exact r
          . rw[r]at p;grind
       have:=Rat.mul_pos (a:=-ev f z) (b:=ev h z) (by grind) s;grind
     . have s:ev h z<0:=by
        rcases Rat.le_iff_lt_or_eq.1 s with s|s
        . exact s
        . exact absurd s F
       have h6:i*ev h z<=-(3/4):=by
        have:=Rat.mul_nonneg (a:=i+ev D z) (b:=-ev h z) (by have:=I.1;grind) (by grind);grind
       have p:0<i*(a*ev f z):=by
        rw[H];have:=Rat.mul_nonneg (a:=c) (b:=-(i*ev h z)-3/4) (by grind) (by grind);have:=L.1;grind
       have M:0<ev f z:=by
        rcases Yv (ev f z) 0 with r|r
        . have:=Rat.mul_nonneg (a:=i*a) (b:=-ev f z) (Rat.mul_nonneg (by grind) (by grind)) (by grind);grind
        . rcases Rat.le_iff_lt_or_eq.1 r with r|r
          . exact r
          . rw[<-r]at p;grind
       have:=Rat.mul_pos (a:=ev f z) (b:=-ev h z) M (by grind);grind
    exact⟨N x t (V k).1 (W k).1,N y hy (V k).2 (W k).2⟩
theorem steps{d:Rat}(i:0<d)(a b:Rat):∃n:Nat,b-a<=(n:Rat)*d:=by
 obtain⟨q,hq⟩:=ex ((b-a)/d);refine⟨q.ceil.toNat,?_⟩;have e:b-a=q*d:=by rw[<-hq,Ap (by grind)]
 rw[e];have g:q<=(q.ceil.toNat:Rat):=by
  have c:q<=(q.ceil:Rat):=Rat.le_ceil;have f:(q.ceil:Rat)<=((q.ceil.toNat:Int):Rat):=Rat.intCast_le_intCast.2 (Int.self_le_toNat _);exact Rat.le_trans c f
 have:=Rat.mul_nonneg (a:=(q.ceil.toNat:Rat)-q) (b:=d) (by grind) (by grind);grind
theorem glue{F G:Rat->Nat}(h:Sh B λx y=>F x+G y=F y+G x){b:Rat}(c:Wi B a)(j:Wi B b)(f:a<=b):F a+G b=F b+G a:=by
 obtain⟨d,d0,h⟩:=h;obtain⟨n,m⟩:=steps d0 a b;have:∀(n:Nat) (a:Rat),Wi B a->a<=b->b-a<=(n:Rat)*d->F a+G b=F b+G a:=by
  intro n;induction n with
  |zero=>
   intro a c f g;have e:a=b:=by
    have:((0:Nat):Rat)=0:=rfl;rw[this]at g;grind
   rw[e]
  |succ n o=>
   intro a c f g;have l:((n+1:Nat):Rat)=(n:Rat)+1:=by rw[Rat.natCast_add];rfl
   rw[l]at g;rcases Yv (b-a) d with i|i
   . exact h a b c j f i
   . have k:Wi B (a+d):=⟨by have:=c.1;grind,by have:=j.2;grind⟩;have p:=h a (a+d) c k (by grind) (by grind);have q:=o (a+d) k (by grind) (by grind);omega
 exact this n a c f m
theorem Er(a:Rat):0<=a*a:=by
 rcases Yv 0 a with h|h
 . exact Rat.mul_nonneg h h
 . have:=Rat.mul_nonneg (a:=-a) (b:=-a) (by grind) (by grind);grind
theorem L1(h:Wi V v):v*v<=V*V:=by
 have:=Rat.mul_nonneg (a:=V-v) (b:=V+v) (by have:=h.2;grind) (by have:=h.1;grind);grind
theorem R5{f c g d:Rat}(m:Wi U u)(n:Wi V v)(p:Wi c y)(j:Wi e a)(l:Wi g i)(q:Wi d f)(C:u*w+v*y=1)(o:w=a*i)
(r:U*(e*g)<=1/4)(s:(V*V)*(e*(c*d))<=1/16):1/2<=(V*V)*(y*(y-a*f)):=by
 have k:=(m.mul (j.mul l)).2;rw[<-o]at k;have t:3/4<=v*y:=by grind
 have x:=Rat.mul_nonneg (a:=V*V-v*v) (b:=y*y) (by have:=L1 n;grind) (Er y);have z:=Rat.mul_nonneg (a:=v*y-3/4) (b:=v*y+3/4) (by grind) (by grind);have A:=(j.mul (p.mul q)).2;have B:=Rat.mul_nonneg (a:=V*V) (b:=e*(c*d)-a*(y*f)) (Er V) (by grind);grind
theorem R6{j c f A k d g n:Rat}(I:Wi U u)(x:Wi V v)(s:Wi A a)(G:Wi k i)(r:Wi e j)(l:Wi d c)(z:Wi g f)(ad:u*w+v*y=1)(K:w=a*j)
(o:y=i*j+a*(c+f))(hn:0<n)(hp:n<=f*c)(L:U*(A*e)<=1/4)(N:V*(k*e)<=1/4)
(C:((V*(d+g))*(V*(d+g)))*((k*e)*(A*(d+d+g)))<=n/8):n/8<=((V*(d+g))*(V*(d+g)))*(y*(i*j+a*c)):=by
 obtain⟨M,F⟩:=ex (V*(d+g));have m:=x.mul (l.add z);rw[F]at m C ⊢;have D:=(I.mul (s.mul r)).2;rw[<-K]at D;obtain⟨t,H⟩:=ex (i*j);have p:=G.mul r;rw[H]at p o ⊢;have W:=(x.mul p).2;have E:v*y=v*t+a*(v*(c+f)):=by rw[o];grind
 obtain⟨q,hq⟩:=ex (v*(c+f));rw[hq]at E m;have X:1/2<=a*q:=by grind
 have h6:=Rat.mul_nonneg (a:=a*a) (b:=M*M-q*q) (Er a) (by have:=L1 m;grind);have h7:=Rat.mul_nonneg (a:=a*q-1/2) (b:=a*q+1/2) (by grind) (by grind);have h8:1/4<=(a*a)*(M*M):=by grind
 have h9:=Rat.mul_nonneg (a:=(a*a)*(M*M)-1/4) (b:=n) (by grind) (by grind);have P:=Rat.mul_nonneg (a:=(a*a)*(M*M)) (b:=f*c-n) (by grind) (by grind);have Q:=Rat.mul_nonneg (a:=(a*a)*(M*M)) (b:=c*c) (by grind) (Er c);have R:=Rat.mul_nonneg (a:=M*M) (b:=t*t) (Er M) (Er t);have S:=(p.mul (s.mul ((l.add l).add z))).1;have T:=Rat.mul_nonneg (a:=M*M) (b:=t*(a*(c+c+f))+(k*e)*(A*(d+d+g))) (Er M) (by grind);have B:y*(t+a*c)=t*t+t*(a*(c+c+f))+(a*a)*(c*c)+(a*a)*(f*c):=by rw[o];grind
 rw[B];grind
theorem small{K r:Rat}(d:0<=K)(c:0<r):∃e,0<e/\∀f,f<=e->K*f<=r:=by
 refine⟨r/(K+1),YF c (by grind),λf k=>?_⟩;have g:r/(K+1)*(K+1)=r:=Ap (by grind);have i:=Rat.mul_nonneg (a:=K) (b:=r/(K+1)-f) d (by grind);have j:=YF c (show(0:Rat)<K+1 by grind);grind
theorem N9{s:Rat}(C:s*s=1):∀(p:List Rat),Jd p=p->p≠[]->∃B e:Rat,0<B/\0<e/\∀x,B<=x->e<=s^(p.length-1)*cf p (p.length-1)*ev p (s*x):=by
 intro p;induction p with
 |nil=>intro _ h;exact absurd rfl h
 |cons c t o=>
  intro tp p0;by_cases d:t=[]
  . subst d;have c0:c≠0:=by
     have:=Jt tp p0;simpa[cf]using this
    refine⟨1,c*c,DI,?_,λx _=>?_⟩
    . have:=Iz (f:=[c]) c0 (λx=>Jy c x) 0 0;unfold Dl at this;rwa[Jy]at this
    . rw[Jy];simp[cf]
  . have q:Jd t=t:=by
     refine Nu (Or.inr ?_);have:=Jt tp p0;have hl:=Ah.2 d;rw[Af,show t.length+1-1=(t.length-1)+1 by omega,J1]at this;exact this
    obtain⟨B,e,A,g,h⟩:=o q d;have hl:=Ah.2 d;obtain⟨n,i⟩:∃n,t.length=n+1:=⟨t.length-1,Y⟩;have m:cf (c::t) ((c::t).length-1)=cf t n:=by
     rw[Af,i,show n+1+1-1=n+1 by omega,J1]
    rw[m,Af,i,show n+1+1-1=n+1 by omega];rw[i,show n+1-1=n by omega]at h;generalize cf t n=k at *;obtain⟨D,hD,l⟩:=XY (s^(n+1)*k*c);refine⟨B+(D+e)/e,e,?_,g,λx E=>?_⟩
    . have:=YF (a:=D+e) (b:=e) (by grind) g;grind
    . have r:=YF (a:=D+e) (b:=e) (by grind) g;have u:=h x (by grind);have v:(D+e)/e*e=D+e:=Ap (by grind);rw[Iy];have j:s^(n+1)*k*(c+s*x*ev t (s*x))=s^(n+1)*k*c+x*(s^n*k*ev t (s*x)):=by
       rw[Rat.pow_succ];grind
      rw[j];have w:=Rat.mul_nonneg (a:=x) (b:=s^n*k*ev t (s*x)-e) (by grind) (by grind);have y:=Rat.mul_nonneg (a:=x-(D+e)/e) (b:=e) (by grind) (by grind);have z:=l.1;grind
theorem R7(tp:Jd p=p)(p0:p≠[]):∃B,0<B/\∀x,B<=x->0<cf p (p.length-1)*ev p x:=by
 obtain⟨B,e,b,i,c⟩:=N9 (s:=1) (by grind) p tp p0;refine⟨B,b,λx f=>?_⟩;have d:=c x f;have a:∀n:Nat,(1:Rat)^n=1:=λn=>by
  induction n with
  |zero=>rfl
  |succ n g=>rw[Rat.pow_succ,g];grind
 rw[a,CG,CG]at d;grind
theorem R8(tp:Jd p=p)(p0:p≠[]):∃B,0<B/\∀x,x<=-B->0<(-1)^(p.length-1)*cf p (p.length-1)*ev p x:=by
 obtain⟨B,e,a,d,b⟩:=N9 (s:=-1) (by grind) p tp p0;refine⟨B,a,λx f=>?_⟩;have c:=b (-x) (by grind);rw[show(-1:Rat)*-x=x by grind]at c;grind
theorem OA:∀(l m:List Rat) (a b:Rat),l.length=m.length->(∀i (k:i<l.length) (e:i<m.length),0<l[i]*m[i])->(0<a*b\/(a=0/\b=0))->EL a l=EL b m:=by
 intro l;induction l with
 |nil=>intro m a b h _ _;cases m with|nil=>rfl|cons=>simp at h
 |cons c l n=>
  intro m a b h e f;cases m with
  |nil=>simp at h
  |cons d m=>
   have g:0<c*d:=e 0 Z Z;obtain⟨o,p⟩:=Ya g;have j:=n m c d (by simpa using h) (λi k s=>e (i+1) si si) (Or.inl g);rw[XF o,XF p,j];rcases f with f|⟨rfl,rfl⟩
   . have:=Ly f g;by_cases q:a*c<0
     . rw[BH q,BH (this.1 q)]
     . rw[BB q,BB λr=>q (this.2 r)]
   . rw[CC,CC]

