import Derived.Test.YteldjhhjnchdeaaGreatDoorV00
set_option maxRecDepth 100000
set_option maxHeartbeats 16000000
namespace Go.Proofs.YteldjhhjnchdeaaGreatDoor
theorem Bz:type_of% @List.getElem?_eq_getElem:=@List.getElem?_eq_getElem
theorem BG:type_of% @if_pos:=@if_pos
theorem BC:type_of% @if_neg:=@if_neg
def cf(p:List Rat)(i:Nat):Rat:=p[i]?.getD 0
variable{p q:List Rat}{i k n:Nat}{f:Nat->Rat}
theorem YS(i:Nat):cf [] i=0:=by simp[cf]
theorem Xo(c:Rat)(t:List Rat):cf (c::t) 0=c:=by simp[cf]
theorem YJ(c:Rat)(t:List Rat)(i:Nat):cf (c::t) (i+1)=cf t i:=by simp[cf]
theorem J1(h:p.length<=i):cf p i=0:=by simp[cf,List.getElem?_eq_none h]
theorem TO(h:i<p.length):cf p i=p[i]:=by simp[cf,List.getElem?_eq_getElem h]
theorem Mq(p:List Rat)(c:Rat)(i:Nat):cf (p++[c]) i=if i=p.length then c else cf p i:=by
 unfold cf;by_cases h:i<p.length
 . rw[AJ h,BC Y]
 . rw[AB Y];by_cases a:i=p.length
   . rw[BG a,a];simp
   . rw[BC a,At si,At Y]
theorem XC(p:List Rat)(k:Nat)(c:Rat)(i:Nat)(a:k<p.length):cf (p.set k c) i=if i=k then c else cf p i:=by
 unfold cf;by_cases h:i=k
 . subst h;rw[BG rfl,A6 a];rfl
 . rw[BC h,AW λe=>h e.symm]
theorem JO(n:Nat)(i:Nat):cf (List.replicate n 0) i=0:=by
 unfold cf;rw[List.getElem?_replicate];split<;>rfl
theorem LQ(n:Nat)(f:Nat->Rat)(i:Nat):cf ((List.range n).map f) i=if i<n then f i else 0:=by
 unfold cf;rw[CT];by_cases h:i<n
 . rw[List.getElem?_range h,BG h];rfl
 . rw[At si,BC h];rfl
theorem Mr(p:List Rat)(n i:Nat):cf (p.take n) i=if i<n then cf p i else 0:=by
 unfold cf;rw[Fs];split<;>rfl
def Jd:List Rat->List Rat
 |[]=>[]
 |c::t=>match Jd t with
  |[]=>if c=0 then []else [c]
  |d::s=>c::d::s
theorem JU(p:List Rat)(i:Nat):cf (Jd p) i=cf p i:=by
 induction p generalizing i with
 |nil=>rfl
 |cons c t b=>
  have a:=b;rw[Jd];split
  . rename_i h;rw[h]at a;cases i with
    |zero=>split<;>simp_all [cf]
    |succ i=>
     rw[YJ,<-a i,YS];split
     . rfl
     . rw[YJ,YS]
  . rename_i d s h;rw[<-h];cases i with
    |zero=>rfl
    |succ i=>rw[YJ,YJ,a]
theorem LR(h:∀i,cf p i=0):Jd p=[]:=by
 induction p with
 |nil=>rfl
 |cons c t d=>
  have a:=d (λi=>by rw[<-YJ c t i];exact h (i+1));have b:c=0:=by rw[<-Xo c t];exact h 0
  rw[Jd,a];show(if c=0 then []else [c])=[];rw[BG b]
theorem YB(h:∀i,cf p i=cf q i):Jd p=Jd q:=by
 induction p generalizing q with
 |nil=>rw[LR (p:=q) λi=>by rw[<-h i,YS]];rfl
 |cons c t e=>
  cases q with
  |nil=>rw[LR (p:=c::t) λi=>by rw[h i,YS]];rfl
  |cons d s=>
   have a:c=d:=by have:=h 0;rwa[Xo,Xo]at this
   have b:=e (q:=s) (λi=>by have:=h (i+1);rwa[YJ,YJ]at this);rw[Jd,Jd,a,b]
theorem Yi(p:List Rat):Jd (Jd p)=Jd p:=YB (JU p)
theorem Jw(p:List Rat):(Jd p).length<=p.length:=by
 induction p with
 |nil=>exact Aa _
 |cons c t a=>
  rw[Jd];split
  . split<;>simp
  . rename_i d s h;rw[h]at a;simp only[Am]at a ⊢;omega
theorem JB(h:Jd p=p)(f:p≠[]):cf p (p.length-1)≠0:=by
 induction p with
 |nil=>exact absurd rfl f
 |cons c t i=>
  rw[Jd]at h;split at h
  . rename_i b;split at h
    . cases h
    . rename_i a;simp only[Fx,true_and]at h;subst h;simpa[cf]using a
  . rename_i d s b;simp only[Fx,true_and]at h;have a:Jd t=t:=by rw[b,h]
    have g:=i a (by rw[<-h];simp);have e:(c::t).length-1=(t.length-1)+1:=by rw[<-h];simp
    rw[e,YJ];exact g
theorem TP(h:p=[]\/cf p (p.length-1)≠0):Jd p=p:=by
 induction p with
 |nil=>rfl
 |cons c t a=>
  rcases h with h|h
  . cases h
  . cases t with
    |nil=>rw[Jd];show(if c=0 then []else [c])=[c];rw[BC (by simpa[cf]using h)]
    |cons d s=>
     have e:(c::d::s).length-1=((d::s).length-1)+1:=O
     rw[e,YJ]at h;rw[Jd,a (Or.inr h)]
theorem Ot(d:n<=p.length)(a:n=0\/cf p (n-1)≠0)(c:∀j,n<=j->cf p j=0):Jd p=p.take n:=by
 have e:Jd p=Jd (p.take n):=YB λi=>by
  rw[Mr];split
  . rfl
  . exact c i Y
 rw[e];refine TP ?_;rcases a with a|a
 . left;rw[a];rfl
 . by_cases b:n=0
   . left;rw[b];rfl
   . right
     rw[Al,CE d,Mr,BG Y];exact a
theorem Ms(h:∀j,n<=j->cf p j=0):(Jd p).length<=n:=by
 rcases AO n (Jd p).length with a|a
 . have b:=JB (Yi p) (by intro c;rw[c]at a;simp at a);rw[JU]at b;exact absurd (h _ Y) b
 . exact a
def ev:List Rat->Rat->Rat
 |[],_=>0
 |c::t,x=>c+x*ev t x
theorem LS(h:∀i,cf p i=0)(x:Rat):ev p x=0:=by
 induction p with
 |nil=>rfl
 |cons c t d=>
  have a:=d (λi=>by rw[<-YJ c t i];exact h (i+1));have b:c=0:=by rw[<-Xo c t];exact h 0
  rw[ev,a,b];grind
theorem Mt(h:∀i,cf p i=cf q i)(x:Rat):ev p x=ev q x:=by
 induction p generalizing q with
 |nil=>rw[LS (p:=q) λi=>by rw[<-h i,YS]];rfl
 |cons c t e=>
  cases q with
  |nil=>rw[LS (p:=c::t) λi=>by rw[h i,YS]];rfl
  |cons d s=>
   have a:c=d:=by have:=h 0;rwa[Xo,Xo]at this
   have b:=e (q:=s) (λi=>by have:=h (i+1);rwa[YJ,YJ]at this);rw[ev,ev,a,b]
theorem Hg(p:List Rat)(x:Rat):ev (Jd p) x=ev p x:=Mt (JU p) x
def dv:List Rat->Rat->Rat
 |[],_=>0
 |_::t,x=>ev t x+x*dv t x
def Hh:List Rat->Rat->List Rat
 |[],_=>[]
 |_::t,a=>match t with
  |[]=>[]
  |d::s=>ev (d::s) a::Hh (d::s) a
theorem TQ(p:List Rat)(a:Rat):(Hh p a).length=p.length-1:=by
 induction p with
 |nil=>rfl
 |cons c t b=>
  cases t with
  |nil=>rfl
  |cons d s=>
   rw[Hh,Am,b];simp
theorem Ou(p:List Rat)(a x:Rat):ev p x=ev p a+(x-a)*ev (Hh p a) x:=by
 induction p with
 |nil=>simp[ev,Hh];grind
 |cons c t b=>
  cases t with
  |nil=>simp[ev,Hh];grind
  |cons d s=>
   rw[Hh];generalize hq:d::s=q at *;rw[ev,ev,ev,b];grind
theorem TR{m:Nat}(h:∀n:Nat,m<=n->ev p (n:Rat)=0)(x:Rat):ev p x=0:=by
 obtain⟨k,d⟩:=ex (p.length);induction k generalizing p m with
 |zero=>
  have:p=[]:=Ap d;rw[this];rfl
 |succ k j=>
  have c:=h m (Aa _);have e:∀n:Nat,m+1<=n->ev (Hh p m) (n:Rat)=0:=λn o=>by
   have a:=Ou p (m:Rat) (n:Rat);rw[h n Y,c]at a;have f:((n:Rat)-(m:Rat))≠0:=by
    intro l;have g:(n:Rat)=(m:Rat):=by grind
    have:=Rat.natCast_inj.1 g;omega
   have i:((n:Rat)-(m:Rat))*ev (Hh p m) n=0:=by grind
   rcases FS.1 i with b|b
   . exact absurd b f
   . exact b
  have a:=j e (by rw[TQ,d];rfl);rw[Ou p (m:Rat) x,c,a];grind
theorem TS(h:∀x,ev p x=0)(i:Nat):cf p i=0:=by
 induction p generalizing i with
 |nil=>rfl
 |cons c t l=>
  have b:c=0:=by have:=h 0;rw[ev]at this;grind
  have d:∀x,ev t x=0:=λx=>TR (m:=1) (λn o=>by
   have e:=h (n:Rat);rw[ev,b]at e;have f:(n:Rat)≠0:=λg=>by
    have j:(n:Rat)=((0:Nat):Rat):=g;have:=Rat.natCast_inj.1 j;omega
   have k:(n:Rat)*ev t n=0:=by grind
   rcases FS.1 k with a|a
   . exact absurd a f
   . exact a) x
  cases i with
  |zero=>rw[Xo];exact b
  |succ i=>rw[YJ];exact l d i
def Eb:List Rat->List Rat->List Rat
 |[],q=>q
 |p,[]=>p
 |c::t,d::s=>(c+d)::Eb t s
def YL(a:Rat)(p:List Rat):List Rat:=p.map λc=>c*a
def E9:List Rat->List Rat->List Rat
 |[],_=>[]
 |c::t,q=>Eb (YL c q) (0::E9 t q)
theorem Xy(p q:List Rat)(i:Nat):cf (Eb p q) i=cf p i+cf q i:=by
 induction p generalizing q i with
 |nil=>rw[Eb,YS];grind
 |cons c t a=>
  cases q with
  |nil=>
   rw[Eb,YS]
   . grind
   . intro h;cases h
  |cons d s=>
   rw[Eb];cases i with
   |zero=>simp[cf]
   |succ i=>rw[YJ,YJ,YJ,a]
theorem Y9(a:Rat)(p:List Rat)(i:Nat):cf (YL a p) i=cf p i*a:=by
 unfold cf YL;rw[CT];cases p[i]? with
 |none=>simp
 |some c=>rfl
theorem IB(p q:List Rat)(x:Rat):ev (Eb p q) x=ev p x+ev q x:=by
 induction p generalizing q with
 |nil=>rw[Eb,ev];grind
 |cons c t a=>
  cases q with
  |nil=>
   rw[Eb]
   . rw[show ev [] x=0 from rfl];grind
   . intro h;cases h
  |cons d s=>rw[Eb,ev,ev,ev,a];grind
theorem XJ(a:Rat)(p:List Rat)(x:Rat):ev (YL a p) x=ev p x*a:=by
 induction p with
 |nil=>simp[YL,ev]
 |cons c t b=>
  rw[show YL a (c::t)=(c*a)::YL a t from rfl,ev,ev,b];grind
theorem Ov(p q:List Rat)(x:Rat):ev (E9 p q) x=ev p x*ev q x:=by
 induction p with
 |nil=>rw[E9,ev];grind
 |cons c t a=>rw[E9,IB,XJ,ev,ev,a];grind
theorem Kb(h:∀x,ev p x=ev q x):Jd p=Jd q:=by
 have a:∀i,cf (Eb p (YL (-1) q)) i=0:=TS (λx=>by rw[IB,XJ,h x];grind);refine YB λi=>?_;have:=a i;rw[Xy,Y9]at this;grind
def sumN:Nat->(Nat->Rat)->Rat
 |0,_=>0
 |n+1,f=>sumN n f+f n
theorem TT{g:Nat->Rat}(h:∀k,k<n->f k=g k):sumN n f=sumN n g:=by
 induction n with
 |zero=>rfl
 |succ n a=>rw[sumN,sumN,a λk b=>h k Y,h n Y]
theorem Mu(h:∀k,k<n->f k=0):sumN n f=0:=by
 induction n with
 |zero=>rfl
 |succ n a=>rw[sumN,a λk b=>h k Y,h n Y];grind
theorem TU(n:Nat)(f:Nat->Rat):sumN (n+1) f=f 0+sumN n (λk=>f (k+1)):=by
 induction n with
 |zero=>simp[sumN];grind
 |succ n a=>rw[sumN,a,sumN];grind
def conv(p q:List Rat)(n k:Nat):Rat:=sumN n λi=>if i<=k then cf p i*cf q (k-i)else 0
theorem IW(p q:List Rat)(k:Nat):cf (E9 p q) k=conv p q p.length k:=by
 induction p generalizing k with
 |nil=>rfl
 |cons c t b=>
  rw[E9,Xy,Y9,conv,Am,TU];rw[BG (AK _),Xo,Fc];have e:cf (0::E9 t q) k=sumN t.length (λi=>if i+1<=k then cf (c::t) (i+1)*cf q (k-(i+1))else 0):=by
   cases k with
   |zero=>
    rw[Xo,Mu];intro i a;rw[BC Y]
   |succ k=>
    rw[YJ,b,conv];refine TT λi a=>?_;by_cases h:i<=k
    . rw[BG h,BG Y,YJ,show k+1-(i+1)=k-i from by omega]
    . rw[BC h,BC Y]
  rw[e];grind
theorem Ow(p q:List Rat)(h:p.length<=n):conv p q n k=conv p q p.length k:=by
 induction n with
 |zero=>rw[show p.length=0 from by omega]
 |succ n b=>
  by_cases a:p.length=n+1
  . rw[a]
  . rw[<-b Y];show conv p q n k+_=_
    dsimp only;rw[J1 (show p.length<=n from by omega)];split<;>grind
theorem TV(p q:List Rat)(h:k+1<=n):conv p q n k=conv p q (k+1) k:=by
 induction n with
 |zero=>omega
 |succ n b=>
  by_cases a:k+1=n+1
  . rw[a]
  . rw[<-b Y];show conv p q n k+_=_
    dsimp only;rw[BC Y];grind
theorem TW(h:p.length+q.length<=k+1):cf (E9 p q) k=0:=by
 rw[IW];refine Mu λi a=>?_;split
 . rw[J1 (p:=q) Y];grind
 . rfl
theorem TY(p q:List Rat)(m n:Nat)(hp:p.length=m+1)(hq:q.length=n+1):cf (E9 p q) (m+n)=cf p m*cf q n:=by
 rw[IW,hp,conv,sumN,BG Y,show m+n-m=n from by omega];rw[Mu]
 . grind
 . intro i a;split
   . rw[J1 (p:=q) Y];grind
   . rfl
theorem Ox(hp:Jd p=p)(hq:Jd q=q)(d:p≠[])(e:q≠[]):(Jd (E9 p q)).length=p.length+q.length-1:=by
 have f:=JB hp d;have g:=JB hq e;have l1:0<p.length:=Ar.2 d;have l2:0<q.length:=Ar.2 e;have i:=TY p q (p.length-1) (q.length-1) Y Y;have b:cf (E9 p q) (p.length-1+(q.length-1))≠0:=by
  rw[i];intro c;rcases FS.1 c with a|a
  . exact f a
  . exact g a
 have c:(Jd (E9 p q)).length<=p.length+q.length-1:=Ms λj k=>TW Y;rcases AO (Jd (E9 p q)).length (p.length+q.length-1)with a|a
 . rw[<-JU]at b;exact absurd (J1 Y) b
 . omega
def Kc(p:List Rat):List Rat:=(List.range (p.length-1)).map λi=>cf p (i+1)*((i+1:Nat):Rat)
theorem Kd(p:List Rat)(i:Nat):cf (Kc p) i=cf p (i+1)*((i+1:Nat):Rat):=by
 unfold Kc;rw[LQ];split
 . rfl
 . rw[J1 Y];grind
theorem TZ(p:List Rat):Eb p []=p:=by cases p<;>rfl
theorem Oy{u v a b:List Rat}(hq:Jd q=q)(r:q≠[])(s:Jd u=u)(t:Jd a=a)(w:Jd v=v)(y:Jd b=b)(C:v.length<q.length)(D:b.length<q.length)
(h:∀x,ev q x*ev u x+ev v x=ev q x*ev a x+ev b x):u=a/\v=b:=by
 obtain⟨d,g⟩:=ex (Jd (Eb u (YL (-1) a)));have k:Jd d=d:=by rw[<-g,Yi]
 have e:∀x,ev d x=ev u x-ev a x:=λx=>by rw[<-g,Hg,IB,XJ];grind
 have l:∀x,ev (E9 d q) x=ev (Eb b (YL (-1) v)) x:=λx=>by
  rw[Ov,IB,XJ,e];have:=h x;grind
 have o:=Kb l;have z:(Jd (Eb b (YL (-1) v))).length<q.length:=by
  refine Ct (Ms (n:=q.length-1) λj B=>?_) Y;rw[Xy,Y9,J1 Y,J1 Y];grind
 have i:d=[]:=by
  by_cases c:d=[]
  . exact c
  . have p:=Ox k hq c r;have A:0<d.length:=Ar.2 c;rw[o]at p;omega
 have m:∀x,ev u x=ev a x:=λx=>by
  have:=e x;rw[i,show ev [] x=0 from rfl]at this;grind
 have f:u=a:=by rw[<-s,<-t];exact Kb m
 refine⟨f,?_⟩;rw[<-w,<-y];exact Kb λx=>by
  have:=h x;rw[f]at this;grind
def Dl(i:Nat)(q:List Rat):List Rat:=List.replicate i 0++q
theorem IX(i:Nat)(q:List Rat)(k:Nat):cf (Dl i q) k=if i<=k then cf q (k-i)else 0:=by
 unfold cf Dl;by_cases h:k<i
 . rw[AJ (by simpa using h),BC Y,List.getElem?_replicate];split<;>rfl
 . rw[AB si,BG Y];simp
theorem LT(i:Nat)(q:List Rat)(x:Rat):ev (Dl i q) x=x^i*ev q x:=by
 induction i with
 |zero=>rw[show Dl 0 q=q from rfl];grind
 |succ i a=>
  rw[show Dl (i+1) q=0::Dl i q from rfl,ev,a];grind
def YC(z:List Rat)(i:Nat)(a:Rat)(q:List Rat):Nat->List Rat
 |0=>z
 |j+1=>(YC z i a q j).set (i+j) (cf (YC z i a q j) (i+j)+a*cf q j)
theorem Yr(z:List Rat)(i:Nat)(a:Rat)(q:List Rat)(j:Nat):(YC z i a q j).length=z.length:=by
 induction j with
 |zero=>rfl
 |succ j b=>rw[YC,Cr,b]
theorem Ta(z:List Rat)(i:Nat)(a:Rat)(q:List Rat)(j k:Nat)(h:i+j<=z.length):cf (YC z i a q j) k=cf z k+(if i<=k/\k<i+j then a*cf q (k-i)else 0):=by
 induction j with
 |zero=>rw[YC,BC Y];grind
 |succ j b=>
  have b:=b Y;rw[YC,XC _ _ _ _ (by rw[Yr];omega)];by_cases c:k=i+j
  . subst c;rw[BG rfl,b,BC Y,BG Y,show i+j-i=j from by omega];grind
  . rw[BC c,b];by_cases d:i<=k/\k<i+j
    . rw[BG d,BG Y]
    . rw[BC d,BC Y]
theorem Mv(z:List Rat)(i:Nat)(a:Rat)(q:List Rat)(k:Nat)(h:i+q.length<=z.length):cf (YC z i a q q.length) k=cf z k+a*cf (Dl i q) k:=by
 rw[Ta _ _ _ _ _ _ h,IX];by_cases b:i<=k
 . by_cases c:k<i+q.length
   . rw[BG ⟨b,c⟩,BG b]
   . rw[BC Y,BG b,J1 (p:=q) Y];grind
 . rw[BC Y,BC b];grind
theorem Tb(z:List Rat)(i:Nat)(a:Rat)(q:List Rat)(x:Rat)(h:i+q.length<=z.length):ev (YC z i a q q.length) x=ev z x+a*(x^i*ev q x):=by
 have e:∀k,cf (YC z i a q q.length) k=cf (Eb z (YL a (Dl i q))) k:=λk=>by
  rw[Mv _ _ _ _ _ h,Xy,Y9];grind
 rw[Mt e,IB,XJ,LT];grind
def Yv(p q:List Rat)(n:Nat):Nat->List Rat
 |0=>List.replicate n 0
 |i+1=>YC (Yv p q n i) i (cf p i) q q.length
theorem Mw(p q:List Rat)(n i:Nat):(Yv p q n i).length=n:=by
 induction i with
 |zero=>rw[Yv,Au]
 |succ i a=>rw[Yv,Yr,a]
theorem Mx(p q:List Rat)(n i k:Nat)(h:i=0\/i+q.length<=n+1):cf (Yv p q n i) k=conv p q i k:=by
 induction i with
 |zero=>rw[Yv,JO];rfl
 |succ i a=>
  rw[Yv,Mv _ _ _ _ _ (by rw[Mw];omega),a Y,IX];show _=conv p q i k+_
  dsimp only;split<;>grind
def JE(p q:List Rat)(n m:Nat):Nat->List Rat × List Rat
 |0=>(List.replicate m 0,p)
 |k+1=>
  let s:=JE p q n m k
  let i:=m-(k+1)
  let c:=cf s.2 (i+n)/cf q n
  (s.1.set i c,YC s.2 i (-c) q q.length)
theorem YD(p q:List Rat)(n m k:Nat):(JE p q n m k).1.length=m/\(JE p q n m k).2.length=p.length:=by
 induction k with
 |zero=>exact⟨Au,rfl⟩
 |succ k a=>rw[JE];exact⟨by rw[Cr];exact a.1,by rw[Yr];exact a.2⟩
theorem Tc(p:List Rat)(i:Nat)(c:Rat)(x:Rat)(d:i<p.length)(b:cf p i=0):ev (p.set i c) x=ev p x+c*x^i:=by
 have e:∀k,cf (p.set i c) k=cf (Eb p (Dl i [c])) k:=λk=>by
  rw[XC _ _ _ _ d,Xy,IX];by_cases h:k=i
  . subst h;rw[BG rfl,BG (Aa _),b,A3,Xo];grind
  . rw[BC h];by_cases a:i<=k
    . rw[BG a,J1 (p:=[c]) si];grind
    . rw[BC a];grind
 rw[Mt e,IB,LT];simp[ev];grind
theorem Oz(p q:List Rat)(n m:Nat)(hq:q.length=n+1)(hl:cf q n≠0)(v:m+n=p.length):∀k,k<=m->
 (∀x,ev p x=ev q x*ev (JE p q n m k).1 x+ev (JE p q n m k).2 x)/\(∀j,j<m-k->cf (JE p q n m k).1 j=0)/\(∀j,m-k+n<=j->cf (JE p q n m k).2 j=0):=by
 intro k;induction k with
 |zero=>
  intro _;refine⟨λx=>?_,λj _=>JO _ _,λj e=>J1 (by show p.length<=j;omega)⟩;rw[JE];dsimp only;rw[LS (JO m)];grind
 |succ k r=>
  intro u;obtain⟨f,b,g⟩:=r Y;obtain⟨l1,l2⟩:=YD p q n m k;rw[JE];dsimp only;generalize hs:JE p q n m k=s at *;obtain⟨i,o⟩:=ex (m-(k+1));rw[o];obtain⟨c,d⟩:=ex (cf s.2 (i+n)/cf q n);rw[d];have a:i+q.length<=s.2.length:=Y
  have t:c*cf q n=cf s.2 (i+n):=by rw[<-d];exact Cp hl
  refine⟨λx=>?_,λj e=>?_,λj e=>?_⟩
  . rw[Tc _ _ _ _ Y (b i Y),Tb _ _ _ _ _ a,f x];grind
  . rw[XC _ _ _ _ Y,BC Y];exact b j Y
  . rw[Mv _ _ _ _ _ a,IX,BG Y];by_cases l:j=i+n
    . subst l;rw[show i+n-i=n from by omega];grind
    . rw[g j Y,J1 (p:=q) Y];grind
def YE(p q:List Rat):List Rat:=Jd (JE p q (q.length-1) (p.length-(q.length-1)) (p.length-(q.length-1))).1
def J2(p q:List Rat):List Rat:=Jd (JE p q (q.length-1) (p.length-(q.length-1)) (p.length-(q.length-1))).2
theorem YF(p q:List Rat)(hq:Jd q=q)(a:q≠[]):(∀x,ev p x=ev q x*ev (YE p q) x+ev (J2 p q) x)/\(J2 p q).length<q.length/\Jd (YE p q)=YE p q/\Jd (J2 p q)=J2 p q:=by
 have l1:0<q.length:=Ar.2 a;refine⟨λx=>?_,?_,Yi _,Yi _⟩
 . unfold YE J2;rw[Hg,Hg];by_cases h:q.length-1<=p.length
   . exact(Oz p q (q.length-1) (p.length-(q.length-1)) Y (JB hq a) Y _ (Aa _)).1 x
   . rw[show p.length-(q.length-1)=0 from by omega,JE];dsimp only;rw[LS (JO 0)];grind
 . unfold J2;refine Ct (Ms (n:=q.length-1) λj b=>?_) Y;by_cases h:q.length-1<=p.length
   . exact(Oz p q (q.length-1) (p.length-(q.length-1)) Y (JB hq a) Y _ (Aa _)).2.2 j Y
   . rw[show p.length-(q.length-1)=0 from by omega,JE];exact J1 (by dsimp only;omega)
def ES(p q:List Rat):List Rat:=Jd (Eb p q)
def J3(p q:List Rat):List Rat:=Jd (Eb p (YL (-1) q))
def JQ(p q:List Rat):List Rat:=Jd (E9 p q)
def Jj(p:List Rat):List Rat:=Jd (Kc p)
theorem X8(p q:List Rat):Jd (ES p q)=ES p q:=Yi _
theorem I0(p q:List Rat):Jd (J3 p q)=J3 p q:=Yi _
theorem X9(p q:List Rat):Jd (JQ p q)=JQ p q:=Yi _
theorem LU(p:List Rat):Jd (Jj p)=Jj p:=Yi _
theorem Ke(p q:List Rat)(x:Rat):ev (ES p q) x=ev p x+ev q x:=by unfold ES;rw[Hg,IB]
theorem LV(p q:List Rat)(x:Rat):ev (J3 p q) x=ev p x-ev q x:=by unfold J3;rw[Hg,IB,XJ];grind
theorem Xf(p q:List Rat)(x:Rat):ev (JQ p q) x=ev p x*ev q x:=by unfold JQ;rw[Hg,Ov]
theorem O0(p q:List Rat)(i:Nat):cf (ES p q) i=cf p i+cf q i:=by unfold ES;rw[JU,Xy]
theorem Kf(p q:List Rat)(i:Nat):cf (J3 p q) i=cf p i-cf q i:=by unfold J3;rw[JU,Xy,Y9];grind
theorem Td(p q:List Rat):(Eb p q).length=max p.length q.length:=by
 induction p generalizing q with
 |nil=>rw[Eb];simp
 |cons c t a=>
  cases q with
  |nil=>rw[TZ];simp
  |cons d s=>rw[Eb,Am,a,Am,Am];omega
theorem Te(p q:List Rat):(ES p q).length<=max p.length q.length:=by
 have:=Jw (Eb p q);rw[Td]at this;exact this
theorem IC(hp:Jd p=p)(hq:Jd q=q)(h:∀x,ev p x=ev q x):p=q:=by rw[<-hp,<-hq];exact Kb h
