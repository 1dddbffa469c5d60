import Derived.Test.YtdmmbgahnkbnaaaGreatDoorT00
set_option linter.all false
set_option maxRecDepth 99999
set_option maxHeartbeats 0
namespace Go.Proofs.YtdmmbgahnkbnaaaGreatDoor
section
def BF:type_of% @if_pos:=@if_pos
def BE:type_of% @if_neg:=@if_neg
def cf(p:List Rat)(i:Nat):Rat:=p[i]?.getD 0
variable{p q:List Rat}{i k n:Nat}{K L u v:Rat}
theorem Xk(i:Nat):cf [] i=0:=by simp[cf]
theorem Xc(c:Rat)(t:List Rat):cf (c::t) 0=c:=by simp[cf]
theorem Yo(c:Rat)(t:List Rat)(i:Nat):cf (c::t) (i+1)=cf t i:=by simp[cf]
theorem Ys(h:p.length<=i):cf p i=0:=by simp[cf,List.getElem?_eq_none h]
def bW(h:i<p.length):cf p i=p[i]:=by simp[cf,List.getElem?_eq_getElem h]
theorem GY(p:List Rat)(k:Nat)(c:Rat)(i:Nat)(hk:k<p.length):cf (p.set k c) i=if i=k then c else cf p i:=by
 grind[cf]
theorem J9(n:Nat)(i:Nat):cf (List.replicate n 0) i=0:=by
 grind[cf]
theorem Ov(n:Nat)(f:Nat->Rat)(i:Nat):cf ((List.range n).map f) i=if i<n then f i else 0:=by
 grind[cf]
theorem Ow(p:List Rat)(n i:Nat):cf (p.take n) i=if i<n then cf p i else 0:=by
 grind[cf]
def Jc:List Rat->List Rat
 |[]=>[]
 |c::t=>match Jc t with
  |[]=>if c=0 then []else [c]
  |d::s=>c::d::s
theorem Yp(p:List Rat)(i:Nat):cf (Jc p) i=cf p i:=by
 induction p generalizing i with
 |nil=>rfl
 |cons c t b=>
  have a:=b;rw[Jc];split
  . rename_i h;rw[h]at a;cases i with
    |zero=>split<;>simp_all [cf]
    |succ i=>
     grind[Yo,Xk]
  . rename_i d s h;rw[<-h];cases i with
    |zero=>rfl
    |succ i=>rw[Yo,Yo,a]
theorem Ox(h:∀i,cf p i=0):Jc p=[]:=by
 induction p with
 |nil=>rfl
 |cons c t a=>
  have b:=a (λi=>by rw[<-Yo c t i];exact h (i+1));grind[Xc,Jc]
theorem Is(h:∀i,cf p i=cf q i):Jc p=Jc q:=by
 induction p generalizing q with
 |nil=>grind[Ox,Xk]
 |cons c t e=>
  cases q with
  |nil=>grind[Ox,Xk]
  |cons d s=>
   have a:c=d:=by have:=h 0;rwa[Xc,Xc]at this
   have b:=e (q:=s) (λi=>by have:=h (i+1);rwa[Yo,Yo]at this);rw[Jc,Jc,a,b]
def Yl(p:List Rat):Jc (Jc p)=Jc p:=Is (Yp p)
theorem Ym(p:List Rat):(Jc p).length<=p.length:=by
 induction p with
 |nil=>exact Aa _
 |cons c t a=>
  grind[Jc]
theorem Ju(h:Jc p=p)(a:p≠[]):cf p (p.length-1)≠0:=by
 induction p with
 |nil=>exact absurd J a
 |cons c t b=>
  grind[Jc,cf]
theorem Oy(h:p=[]\/cf p (p.length-1)≠0):Jc p=p:=by
 induction p with
 |nil=>rfl
 |cons c t a=>
  grind[Jc,cf]
def bX(hn:n<=p.length)(a:n=0\/cf p (n-1)≠0)(b:∀j,n<=j->cf p j=0):Jc p=p.take n:=by
 have e:Jc p=Jc (p.take n):=Is λi=>by
  grind[Ow]
 grind[Oy,Ow]
def Oz(h:∀j,n<=j->cf p j=0):(Jc p).length<=n:=by
 rcases Ch n (Jc p).length with a|a
 . have b:=Ju (Yl p) DK;grind[Yp]
 . exact a
def ev:List Rat->Rat->Rat
 |[],_=>0
 |c::t,x=>c+x*ev t x
theorem Lj(h:∀i,cf p i=0)(x:Rat):ev p x=0:=by
 induction p with
 |nil=>rfl
 |cons c t a=>
  have b:=a (λi=>by rw[<-Yo c t i];exact h (i+1));grind[Xc,ev]
def Lk(h:∀i,cf p i=cf q i)(x:Rat):ev p x=ev q x:=by
 induction p generalizing q with
 |nil=>grind[Lj,Xk]
 |cons c t e=>
  cases q with
  |nil=>grind[Lj,Xk]
  |cons d s=>
   have a:c=d:=by have:=h 0;rwa[Xc,Xc]at this
   have b:=e (q:=s) (λi=>by have:=h (i+1);rwa[Yo,Yo]at this);rw[ev,ev,a,b]
theorem Hb(p:List Rat)(x:Rat):ev (Jc p) x=ev p x:=Lk (Yp p) x
def dv:List Rat->Rat->Rat
 |[],_=>0
 |_::t,x=>ev t x+x*dv t x
theorem ST(h:∀i,cf p i=0)(x:Rat):dv p x=0:=by
 induction p with
 |nil=>rfl
 |cons c t b=>
  have a:∀i,cf t i=0:=λi=>by rw[<-Yo c t i];exact h (i+1)
  rw[dv,b a,Lj a];grind
theorem SU(h:∀i,cf p i=cf q i)(x:Rat):dv p x=dv q x:=by
 induction p generalizing q with
 |nil=>grind[ST,Xk]
 |cons c t b=>
  cases q with
  |nil=>grind[ST,Xk]
  |cons d s=>
   have a:∀i,cf t i=cf s i:=λi=>by have:=h (i+1);rwa[Yo,Yo]at this
   rw[dv,dv,b a,Lk a]
def IM:List Rat->Rat->List Rat
 |[],_=>[]
 |_::t,a=>match t with
  |[]=>[]
  |d::s=>ev (d::s) a::IM (d::s) a
def bY(p:List Rat)(a:Rat):(IM p a).length=p.length-1:=by
 induction p with
 |nil=>rfl
 |cons c t b=>
  cases t with
  |nil=>rfl
  |cons d s=>
   rw[IM,Ah,b];simp
theorem O0(p:List Rat)(a x:Rat):ev p x=ev p a+(x-a)*ev (IM p a) x:=by
 induction p with
 |nil=>simp[ev,IM];grind
 |cons c t b=>
  cases t with
  |nil=>simp[ev,IM];grind
  |cons d s=>
   grind[IM,ev]
def bZ{m:Nat}(h:∀n:Nat,m<=n->ev p (n:Rat)=0)(x:Rat):ev p x=0:=by
 obtain⟨k,hk⟩:=ex (p.length);induction k generalizing p m with
 |zero=>
  have:p=[]:=AM hk
  rw[this];rfl
 |succ k d=>
  have a:=h m (Aa _);have b:∀n:Nat,m+1<=n->ev (IM p m) (n:Rat)=0:=λn hn=>by
   grind[O0,Rat.natCast_inj]
  have c:=d b (by rw[bY,hk];rfl);rw[O0 p (m:Rat) x,a,c];grind
def bp(h:∀x,ev p x=0)(i:Nat):cf p i=0:=by
 induction p generalizing i with
 |nil=>rfl
 |cons c t g=>
  have a:c=0:=by have:=h 0;rw[ev]at this;grind
  have b:∀x,ev t x=0:=λx=>bZ (m:=1) (λn hn=>by
   have d:=h (n:Rat);rw[ev,a]at d;have j:(n:Rat)≠0:=λe=>by
    have f:(n:Rat)=((0:Nat):Rat):=e;have:=Rat.natCast_inj.1 f;omega
   grind) x
  cases i with
  |zero=>rw[Xc];exact a
  |succ i=>rw[Yo];exact g b i
def EC:List Rat->List Rat->List Rat
 |[],q=>q
 |p,[]=>p
 |c::t,d::s=>(c+d)::EC t s
def XJ(a:Rat)(p:List Rat):List Rat:=p.map λc=>c*a
def Eo:List Rat->List Rat->List Rat
 |[],_=>[]
 |c::t,q=>EC (XJ c q) (0::Eo t q)
theorem It(p q:List Rat)(i:Nat):cf (EC p q) i=cf p i+cf q i:=by
 induction p generalizing q i with
 |nil=>rw[EC,Xk];grind
 |cons c t a=>
  cases q with
  |nil=>
   grind[EC,Xk]
  |cons d s=>
   rw[EC];cases i with
   |zero=>simp[cf]
   |succ i=>rw[Yo,Yo,Yo,a]
theorem K6(a:Rat)(p:List Rat)(i:Nat):cf (XJ a p) i=cf p i*a:=by
 grind[cf,XJ]
theorem Hu(p q:List Rat)(x:Rat):ev (EC p q) x=ev p x+ev q x:=by
 induction p generalizing q with
 |nil=>rw[EC,ev];grind
 |cons c t a=>
  cases q with
  |nil=>
   grind[EC,ev]
  |cons d s=>rw[EC,ev,ev,ev,a];grind
theorem Iu(a:Rat)(p:List Rat)(x:Rat):ev (XJ a p) x=ev p x*a:=by
 induction p with
 |nil=>simp[XJ,ev]
 |cons c t b=>
  grind[XJ,ev]
theorem O1(p q:List Rat)(x:Rat):ev (Eo p q) x=ev p x*ev q x:=by
 induction p with
 |nil=>rw[Eo,ev];grind
 |cons c t a=>rw[Eo,Hu,Iu,ev,ev,a];grind
theorem br(p q:List Rat)(x:Rat):dv (EC p q) x=dv p x+dv q x:=by
 induction p generalizing q with
 |nil=>rw[EC,dv];grind
 |cons c t a=>
  cases q with
  |nil=>
   grind[EC,dv]
  |cons d s=>rw[EC,dv,dv,dv,a,Hu];grind
theorem SV(a:Rat)(p:List Rat)(x:Rat):dv (XJ a p) x=dv p x*a:=by
 induction p with
 |nil=>simp[XJ,dv]
 |cons c t b=>
  grind[XJ,dv,Iu]
def bv(p q:List Rat)(x:Rat):dv (Eo p q) x=dv p x*ev q x+ev p x*dv q x:=by
 induction p with
 |nil=>rw[Eo,dv,ev];grind
 |cons c t a=>grind[Eo,br,SV,dv,ev,O1]
theorem O2(h:∀x,ev p x=ev q x):Jc p=Jc q:=by
 have a:∀i,cf (EC p (XJ (-1) q)) i=0:=bp (λx=>by rw[Hu,Iu,h x];grind);refine Is λi=>?_;have:=a i;rw[It,K6]at this;grind
def Dw:Nat->(Nat->Rat)->Rat
 |0,_=>0
 |n+1,f=>Dw n f+f n
theorem O3{f:Nat->Rat}(h:∀k,k<n->f k=0):Dw n f=0:=by
 induction n with
 |zero=>rfl
 |succ n a=>grind[Dw]
def cA(n:Nat)(f:Nat->Rat):Dw (n+1) f=f 0+Dw n (λk=>f (k+1)):=by
 induction n with
 |zero=>simp[Dw];grind
 |succ n a=>rw[Dw,a,Dw];grind
def conv(p q:List Rat)(n k:Nat):Rat:=Dw n λi=>if i<=k then cf p i*cf q (k-i)else 0
theorem K7(p q:List Rat)(k:Nat):cf (Eo p q) k=conv p q p.length k:=by
 induction p generalizing k with
 |nil=>rfl
 |cons c t a=>
  rw[Eo,It,K6,conv,Ah,cA];rw[BF (As _),Xc,Fv];have e:cf (0::Eo t q) k=Dw t.length (λi=>if i+1<=k then cf (c::t) (i+1)*cf q (k-(i+1))else 0):=by
   cases k with
   |zero=>
    grind[Xc,O3]
   |succ k=>
    grind[Yo,conv]
  rw[e];grind
def cC(p q:List Rat)(h:p.length<=n):conv p q n k=conv p q p.length k:=by
 induction n with
 |zero=>grind
 |succ n b=>
  by_cases a:p.length=n+1
  . rw[a]
  . rw[<-b O];show conv p q n k+_=_
    grind[Ys]
def cD(h:p.length+q.length<=k+1):cf (Eo p q) k=0:=by
 rw[K7];refine O3 λi hi=>?_;grind[Ys]
theorem O4(p q:List Rat)(m n:Nat)(hp:p.length=m+1)(hq:q.length=n+1):cf (Eo p q) (m+n)=cf p m*cf q n:=by
 grind[K7,conv,Dw,O3,Ys]
theorem SW(hp:Jc p=p)(hq:Jc q=q)(d:p≠[])(e:q≠[]):(Jc (Eo p q)).length=p.length+q.length-1:=by
 have f:=Ju hp d;have g:=Ju hq e;have l1:0<p.length:=Ac.2 d;have l2:0<q.length:=Ac.2 e;have i:=O4 p q (p.length-1) (q.length-1) O O;have b:cf (Eo p q) (p.length-1+(q.length-1))≠0:=by
  rw[i];intro c;rcases A2.1 c with a|a
  . exact f a
  . exact g a
 have c:(Jc (Eo p q)).length<=p.length+q.length-1:=Oz λj k=>cD O;rcases Ch (Jc (Eo p q)).length (p.length+q.length-1)with a|a
 . rw[<-Yp]at b;exact absurd (Ys O) b
 . omega
def Hv(p:List Rat):List Rat:=(List.range (p.length-1)).map λi=>cf p (i+1)*((i+1:Nat):Rat)
def KO(p:List Rat)(i:Nat):cf (Hv p) i=cf p (i+1)*((i+1:Nat):Rat):=by
 grind[Hv,Ov,Ys]
def cE(p:List Rat)(x:Rat):ev (Hv p) x=dv p x:=by
 induction p with
 |nil=>rfl
 |cons c t a=>
  have e:∀i,cf (Hv (c::t)) i=cf (EC t (0::Hv t)) i:=λi=>by
   rw[KO,It,Yo];cases i with
   |zero=>rw[Xc];grind
   |succ i=>rw[Yo,KO];grind
  rw[Lk e,Hu,ev,a,dv];grind
def cF(p:List Rat):EC p []=p:=by cases p<;>rfl
def cH{u v b a:List Rat}(hq:Jc q=q)(p:q≠[])(r:Jc u=u)(s:Jc b=b)(hv:Jc v=v)(t:Jc a=a)(w:v.length<q.length)(y:a.length<q.length)
(h:∀x,ev q x*ev u x+ev v x=ev q x*ev b x+ev a x):u=b/\v=a:=by
 obtain⟨d,c⟩:=ex (Jc (EC u (XJ (-1) b)));have l:Jc d=d:=by rw[<-c,Yl]
 have m:∀x,ev d x=ev u x-ev b x:=λx=>by rw[<-c,Hb,Hu,Iu];grind
 have e:∀x,ev (Eo d q) x=ev (EC a (XJ (-1) v)) x:=λx=>by
  grind[O1,Hu,Iu]
 have g:=O2 e;have i:(Jc (EC a (XJ (-1) v))).length<q.length:=by
  refine CB (Oz (n:=q.length-1) λj o=>?_) O;rw[It,K6,Ys O,Ys O];grind
 have k:d=[]:=by
  by_cases f:d=[]
  . exact f
  . grind[SW,Ac]
 grind[ev,O2]
def Gm(i:Nat)(q:List Rat):List Rat:=List.replicate i 0++q
theorem My(i:Nat)(q:List Rat)(k:Nat):cf (Gm i q) k=if i<=k then cf q (k-i)else 0:=by
 grind[cf,Gm]
def SX(i:Nat)(q:List Rat)(x:Rat):ev (Gm i q) x=x^i*ev q x:=by
 induction i with
 |zero=>rw[show Gm 0 q=q from J];grind
 |succ i a=>
  grind[Gm,ev]
def Xd(z:List Rat)(i:Nat)(a:Rat)(q:List Rat):Nat->List Rat
 |0=>z
 |j+1=>(Xd z i a q j).set (i+j) (cf (Xd z i a q j) (i+j)+a*cf q j)
theorem Ll(z:List Rat)(i:Nat)(a:Rat)(q:List Rat)(j:Nat):(Xd z i a q j).length=z.length:=by
 induction j with
 |zero=>rfl
 |succ j b=>rw[Xd,Fm,b]
theorem cI(z:List Rat)(i:Nat)(a:Rat)(q:List Rat)(j k:Nat)(h:i+j<=z.length):cf (Xd z i a q j) k=cf z k+(if i<=k/\k<i+j then a*cf q (k-i)else 0):=by
 induction j with
 |zero=>rw[Xd,BE O];grind
 |succ j b=>
  grind[Xd,GY,Ll]
theorem O5(z:List Rat)(i:Nat)(a:Rat)(q:List Rat)(k:Nat)(h:i+q.length<=z.length):cf (Xd z i a q q.length) k=cf z k+a*cf (Gm i q) k:=by
 grind[cI,My,Ys]
theorem cJ(z:List Rat)(i:Nat)(a:Rat)(q:List Rat)(x:Rat)(h:i+q.length<=z.length):ev (Xd z i a q q.length) x=ev z x+a*(x^i*ev q x):=by
 have e:∀k,cf (Xd z i a q q.length) k=cf (EC z (XJ a (Gm i q))) k:=λk=>by
  grind[O5,It,K6]
 rw[Lk e,Hu,Iu,SX];grind
def Ev(p q:List Rat)(n:Nat):Nat->List Rat
 |0=>List.replicate n 0
 |i+1=>Xd (Ev p q n i) i (cf p i) q q.length
def O6(p q:List Rat)(n i:Nat):(Ev p q n i).length=n:=by
 induction i with
 |zero=>rw[Ev,AO]
 |succ i a=>rw[Ev,Ll,a]
theorem SY(p q:List Rat)(n i k:Nat)(h:i=0\/i+q.length<=n+1):cf (Ev p q n i) k=conv p q i k:=by
 induction i with
 |zero=>rw[Ev,J9];rfl
 |succ i a=>
  rw[Ev,O5 _ _ _ _ _ (by rw[O6];omega),a O,My];show _=conv p q i k+_
  grind
def JO(p q:List Rat)(n m:Nat):Nat->List Rat × List Rat
 |0=>(List.replicate m 0,p)
 |k+1=>
  let s:=JO p q n m k
  let i:=m-(k+1)
  let c:=cf s.2 (i+n)/cf q n
  (s.1.set i c,Xd s.2 i (-c) q q.length)
theorem Xp(p q:List Rat)(n m k:Nat):(JO p q n m k).1.length=m/\(JO p q n m k).2.length=p.length:=by
 induction k with
 |zero=>exact⟨AO,J⟩
 |succ k a=>grind[JO,Ll]
theorem cK(p:List Rat)(i:Nat)(c:Rat)(x:Rat)(hi:i<p.length)(a:cf p i=0):ev (p.set i c) x=ev p x+c*x^i:=by
 have e:∀k,cf (p.set i c) k=cf (EC p (Gm i [c])) k:=λk=>by
  grind[GY,It,My,Xc,Ys]
 rw[Lk e,Hu,SX];simp[ev];grind
def SZ(p q:List Rat)(n m:Nat)(hq:q.length=n+1)(hl:cf q n≠0)(e:m+n=p.length):∀k,k<=m->
 (∀x,ev p x=ev q x*ev (JO p q n m k).1 x+ev (JO p q n m k).2 x)/\(∀j,j<m-k->cf (JO p q n m k).1 j=0)/\(∀j,m-k+n<=j->cf (JO p q n m k).2 j=0):=by
 intro k;induction k with
 |zero=>
  intro _;grind[J9,Ys,JO,Lj]
 |succ k a=>
  intro hk;obtain⟨b,c,d⟩:=a O;obtain⟨l1,l2⟩:=Xp p q n m k;rw[JO];grind[cK,cJ,GY,O5,My,Ys]
def Jm(p q:List Rat):List Rat:=Jc (JO p q (q.length-1) (p.length-(q.length-1)) (p.length-(q.length-1))).1
def JU(p q:List Rat):List Rat:=Jc (JO p q (q.length-1) (p.length-(q.length-1)) (p.length-(q.length-1))).2
def Y3(p q:List Rat)(hq:Jc q=q)(a:q≠[]):(∀x,ev p x=ev q x*ev (Jm p q) x+ev (JU p q) x)/\(JU p q).length<q.length/\Jc (Jm p q)=Jm p q/\Jc (JU p q)=JU p q:=by
 have l1:0<q.length:=Ac.2 a;refine⟨λx=>?_,?_,Yl _,Yl _⟩
 . unfold Jm JU;rw[Hb,Hb];by_cases h:q.length-1<=p.length
   . exact(SZ p q (q.length-1) (p.length-(q.length-1)) O (Ju hq a) O _ (Aa _)).1 x
   . rw[show p.length-(q.length-1)=0 from by omega,JO];grind[Lj,J9]
 . unfold JU;refine CB (Oz (n:=q.length-1) λj b=>?_) O;by_cases h:q.length-1<=p.length
   . exact(SZ p q (q.length-1) (p.length-(q.length-1)) O (Ju hq a) O _ (Aa _)).2.2 j O
   . rw[show p.length-(q.length-1)=0 from by omega,JO];exact Ys (by dsimp only;omega)
def Xx(p q:List Rat):List Rat:=Jc (EC p q)
def JR(p q:List Rat):List Rat:=Jc (EC p (XJ (-1) q))
def Ji(p q:List Rat):List Rat:=Jc (Eo p q)
def Jb(p:List Rat):List Rat:=Jc (Hv p)
def K8(p q:List Rat):Jc (Xx p q)=Xx p q:=Yl _
theorem Yx(p q:List Rat):Jc (JR p q)=JR p q:=Yl _
def Jv(p q:List Rat):Jc (Ji p q)=Ji p q:=Yl _
theorem Jt(p:List Rat):Jc (Jb p)=Jb p:=Yl _
theorem Ye(p q:List Rat)(x:Rat):ev (Xx p q) x=ev p x+ev q x:=by unfold Xx;rw[Hb,Hu]
theorem Xy(p q:List Rat)(x:Rat):ev (JR p q) x=ev p x-ev q x:=by grind[JR,Hb,Hu,Iu]
theorem Je(p q:List Rat)(x:Rat):ev (Ji p q) x=ev p x*ev q x:=by unfold Ji;rw[Hb,O1]
def Iv(p:List Rat)(x:Rat):ev (Jb p) x=dv p x:=by unfold Jb;rw[Hb,cE]
def cL(p q:List Rat)(i:Nat):cf (Xx p q) i=cf p i+cf q i:=by unfold Xx;rw[Yp,It]
theorem Mz(p q:List Rat)(i:Nat):cf (JR p q) i=cf p i-cf q i:=by grind[JR,Yp,It,K6]
def cN(p q:List Rat):(EC p q).length=max p.length q.length:=by
 induction p generalizing q with
 |nil=>rw[EC];simp
 |cons c t a=>
  cases q with
  |nil=>rw[cF];simp
  |cons d s=>grind[EC]
def cO(p q:List Rat):(Xx p q).length<=max p.length q.length:=by
 have:=Ym (EC p q);rw[cN]at this;exact this
def YO(hp:Jc p=p)(hq:Jc q=q)(h:∀x,ev p x=ev q x):p=q:=by rw[<-hp,<-hq];exact O2 h
def Sa(p q:List Rat):Jb (Ji p q)=Xx (Ji (Jb p) q) (Ji p (Jb q)):=by
 refine YO (Jt _) (K8 _ _) λx=>?_;rw[Iv,Ye,Je,Je,Iv,Iv,<-bv];grind[SU,Ji,Yp]
def JX(a b:Rat):a<=b\/b<=a:=Rat.le_total
def Yk{a b:Rat}(c:0<a)(d:0<b):0<a/b:=by
 have e:a/b*b=a:=Ak DK;rcases JX (a/b) 0 with h|h
 . have:=Rat.mul_nonneg (a:=-(a/b)) (b:=b) DK DK;grind
 . rcases Rat.le_iff_lt_or_eq.1 h with h|h
   . exact h
   grind
def cR{U V:Rat}(a:-U<=u)(b:u<=U)(c:-V<=v)(d:v<=V):-(U*V)<=u*v/\u*v<=U*V:=by
 have e:=Rat.mul_nonneg (a:=U-u) (b:=V+v) DK DK;have f:=Rat.mul_nonneg (a:=U+u) (b:=V-v) DK DK;have g:=Rat.mul_nonneg (a:=U-u) (b:=V-v) DK DK;have i:=Rat.mul_nonneg (a:=U+u) (b:=V+v) DK DK;constructor<;>grind
def Wi(K u:Rat):Prop:=-K<=u/\u<=K
def Wi.mul(h:Wi K u)(a:Wi L v):Wi (K*L) (u*v):=cR h.1 h.2 a.1 a.2
def Wi.add(h:Wi K u)(a:Wi L v):Wi (K+L) (u+v):=by have:=h.1;have:=h.2;have:=a.1;have:=a.2;constructor<;>grind
def Wi.mono(h:Wi K u)(hl:K<=L):Wi L u:=by have:=h.1;have:=h.2;constructor<;>grind
def Wi.neg(h:Wi K u):Wi K (-u):=by have:=h.1;have:=h.2;constructor<;>grind
def Hw(c:Rat)(p:List Rat)(x:Rat):ev (c::p) x=c+x*ev p x:=rfl
def JN(c:Rat):∃K,0<K/\Wi K c:=by
 rcases JX 0 c with h|h
 . exact⟨c+1,DK,by constructor<;>grind⟩
 . exact⟨-c+1,DK,by constructor<;>grind⟩
def XN(p:List Rat){B:Rat}(b:0<=B):∃K,0<K/\∀x,Wi B x->Wi K (ev p x):=by
 induction p with
 |nil=>exact⟨1,DN,λx _=>⟨by simp[ev];grind,by simp[ev];grind⟩⟩
 |cons c p f=>
  obtain⟨K,d,h⟩:=f;obtain⟨C,hC,e⟩:=JN c;have:=Rat.mul_nonneg b (Rat.le_of_lt d);exact⟨C+B*K,DK,λx a=>e.add (a.mul (h x a))⟩
def cU(p:List Rat){B:Rat}(a:0<=B):∃K,0<K/\∀x y,Wi B x->Wi B y->x<=y->Wi (K*(y-x)) (ev p x-ev p y):=by
 induction p with
 |nil=>exact⟨1,DN,λx y _ _ d=>⟨by simp[ev];grind,by simp[ev];grind⟩⟩
 |cons c p l=>
  obtain⟨K,j,h⟩:=l;obtain⟨C,hC,k⟩:=XN p a;refine⟨C+B*K+1,by have:=Rat.mul_nonneg a (Rat.le_of_lt j);grind,λx y b f d=>?_⟩;have g:Wi (y-x) (x-y):=⟨DK,DK⟩;have i:=(g.mul (k x b)).add (f.mul (h x y b f d));have e:ev (c::p) x-ev (c::p) y=(x-y)*ev p x+y*(ev p x-ev p y):=by rw[Hw,Hw];grind
  rw[e];refine i.mono ?_;grind
def Sh(B:Rat)(P:Rat->Rat->Prop):Prop:=∃d,0<d/\∀x y,Wi B x->Wi B y->x<=y->y-x<=d->P x y
section
variable {B:Rat} {P Q:Rat->Rat->Prop}
def Sh.and(h:Sh B P)(f:Sh B Q):Sh B λx y=>P x y/\Q x y:=by
 obtain⟨d,d0,h⟩:=h;obtain⟨e,g,f⟩:=f;rcases JX d e with i|i
 . exact⟨d,d0,λx y a b c l=>⟨h x y a b c l,f x y a b c DK⟩⟩
 . exact⟨e,g,λx y a b c l=>⟨h x y a b c DK,f x y a b c l⟩⟩
def Sh.mono(h:Sh B P)(hi:∀x y,Wi B x->Wi B y->x<=y->P x y->Q x y):Sh B Q:=by
 obtain⟨d,d0,h⟩:=h;exact⟨d,d0,λx y a b c l=>hi x y a b c (h x y a b c l)⟩
def Sh.all(h:∀x y,Wi B x->Wi B y->x<=y->P x y):Sh B P:=⟨1,DN,λx y a b c _=>h x y a b c⟩
end
def Stb(p:List Rat)(x y:Rat):Prop:=0<ev p x*ev p y
def Xe(p:List Rat){B e:Rat}(k:0<=B)(m:0<e):Sh B λx y=>¬Stb p x y->Wi e (ev p x)/\Wi e (ev p y):=by
 obtain⟨K,g,h⟩:=cU p k;refine⟨e/K,Yk m g,λx y a b c l hn=>?_⟩;have i:=h x y a b c;have j:K*(y-x)<=e:=by
  have:=Rat.mul_le_mul_of_nonneg_left l (Rat.le_of_lt g);have n:K*(e/K)=e:=by rw[AX,Ak DK]
  grind
 have f:=i.mono j;have hs:ev p x*ev p y<=0:=Rat.not_lt.1 hn;have o:=f.1;have q:=f.2;rcases JX 0 (ev p x)with p1|p1<;>rcases JX 0 (ev p y)with d|d
 . rcases Rat.le_iff_lt_or_eq.1 p1 with q1|q1
   . rcases Rat.le_iff_lt_or_eq.1 d with q2|q2
     . have:=Rat.mul_pos q1 q2;grind
     . constructor<;>constructor<;>grind
   . constructor<;>constructor<;>grind
 . constructor<;>constructor<;>grind
 . constructor<;>constructor<;>grind
 . rcases Rat.le_iff_lt_or_eq.1 p1 with q1|q1
   . rcases Rat.le_iff_lt_or_eq.1 d with q2|q2
     . have:=Rat.mul_pos (a:=- ev p x) (b:=- ev p y) DK DK;grind
     . constructor<;>constructor<;>grind
   . constructor<;>constructor<;>grind
end
section
def Xf:Rat->List Rat->Nat
 |_,[]=>0
 |a,b::l=>if b=0 then Xf a l else(if a*b<0 then 1 else 0)+Xf b l
def DP(l:List Rat):Nat:=Xf 0 l
def JF(l:List (List Rat))(x:Rat):List Rat:=l.map λp=>ev p x
variable{a b:Rat}
def JW(p:List Rat)(l:List (List Rat))(x:Rat):JF (p::l) x=ev p x::JF l x:=rfl
def cV(h:a<0)(c:0<=b):a*b<=0:=by
 have:=Rat.mul_nonneg (a:=-a) (b:=b) DK c;grind
theorem Sb(h:a<0)(c:0<=b)(d:0<a*b):False:=by have:=cV h c;grind
theorem NA{c d:Rat}(h:0<a*c)(j:0<b*d):a*b<0↔c*d<0:=by
 have g:0<(a*b)*(c*d):=by have:=Rat.mul_pos h j;grind
 constructor
 . intro i;rcases JX 0 (c*d)with f|f
   . exact(Sb i f g).elim
   . rcases Rat.le_iff_lt_or_eq.1 f with e|e
     . exact e
     . rw[e]at g;grind
 . intro i;rcases JX 0 (a*b)with f|f
   . grind[Sb]
   . rcases Rat.le_iff_lt_or_eq.1 f with e|e
     . exact e
     . rw[e]at g;grind
theorem Jz(h:0<a*b):a≠0/\b≠0:=⟨λe=>by rw[e]at h;grind,λe=>by rw[e]at h;grind⟩
def O7(h:a*b<0):a≠0/\b≠0:=⟨λe=>by rw[e]at h;grind,λe=>by rw[e]at h;grind⟩
theorem XZ(h:b≠0)(l:List Rat):Xf a (b::l)=(if a*b<0 then 1 else 0)+Xf b l:=by
 rw[Xf,BE h]
def Sc{g h:Rat}(hh:a*h<0)(l:List Rat):Xf a (g::h::l)=1+Xf h l:=by
 obtain⟨a0,c⟩:=O7 hh;by_cases g0:g=0
 . rw[Xf,BF g0,XZ c,BF hh]
 . rw[XZ g0,XZ c];have f:0<g*g:=by
    rcases JX 0 g with d|d
    . grind[Rat.mul_pos]
    . rcases Rat.le_iff_lt_or_eq.1 d with e|e
      . have:=Rat.mul_pos (a:=-g) (b:=-g) DK DK;grind
      . exact absurd e g0
   have i:(a*g)*(g*h)<0:=by
    have:=Rat.mul_pos (a:=-(a*h)) (b:=g*g) DK f;grind
   by_cases p:a*g<0
   . have:¬g*h<0:=λq=>by
      have:=Rat.mul_pos (a:=-(a*g)) (b:=-(g*h)) DK DK;grind
     grind
   grind[Rat.mul_nonneg,Rat.not_lt]
def Sd(x y:Rat):List (List Rat)->Prop
 |[]=>False
 |[f]=>Stb f x y
 |[_,g]=>Stb g x y
 |f::g::h::l=>(Stb f x y\/Stb g x y)/\(¬Stb g x y->ev f x*ev h x<0/\ev f y*ev h y<0)/\Sd x y (g::h::l)
structure Gd(x y:Rat)(l:List (List Rat)):Prop where
 o:Sd x y l
section
variable {x y:Rat}
variable{l:List (List Rat)}{f g:List Rat}{a:Rat}
def Gd.adj(h:Gd x y (f::g::l)):Stb f x y\/Stb g x y:=by
 match l,h with
 |[],h=>exact Or.inr h.o
 |_::_,h=>exact h.o.1
def Gd.tail(h:Gd x y (f::g::l)):Gd x y (g::l):=by
 match l,h with
 |[],h=>exact⟨h.o⟩
 |_::_,h=>exact⟨h.o.2.2⟩
def Gd.same:∀(n:Nat) (l:List (List Rat)) (f:List Rat),l.length<=n->Gd x y (f::l)->Stb f x y->Xf (ev f x) (JF l x)=Xf (ev f y) (JF l y):=by
 intro n;induction n with
 |zero=>
  intro l f hl _ _
  have:l=[]:=Al.1 O
  subst this;rfl
 |succ n b=>
  intro l f hl hg c;match l,hl,hg with
  |[],_,_=>rfl
  |g::l,hl,hg=>
   by_cases hs:Stb g x y
   . obtain⟨d,e⟩:=Jz hs;rw[JW,JW,XZ d,XZ e,b l g (by simp at hl;omega) hg.tail hs];have:=NA c hs;by_cases p:ev f x*ev g x<0
     . rw[BF p,BF (this.1 p)]
     . rw[BE p,BE λq=>p (this.2 q)]
   . match l,hl,hg with
     |[],_,hg=>exact absurd hg.o hs
     |h::l,hl,hg=>
      have hh:Stb h x y:=(hg.tail.adj).resolve_left hs;have a:ev f x*ev h x<0/\ev f y*ev h y<0:=hg.o.2.1 hs;rw[JW,JW,JW,JW,Sc a.1,Sc a.2,b l h (by simp at hl;omega) hg.tail.tail hh]
theorem O8(h:a≠0)(l:List Rat):DP (a::l)=Xf a l:=by
 grind[DP,XZ]
def Iw{b:Rat}(h:b≠0)(l:List Rat):DP (a::b::l)=(if a*b<0 then 1 else 0)+Xf b l:=by
 grind[DP,Xf,O8]
def Gd.stay(h:Gd x y (f::l))(a:Stb f x y):DP (JF (f::l) x)=DP (JF (f::l) y):=by
 obtain⟨b,c⟩:=Jz a;rw[JW,JW,O8 b,O8 c];exact h.same _ l f (Aa _) a
def Gd.both{m:List (List Rat)}(h:Gd x y (f::l))(c:Gd x y (g::m)){k:Rat}(hk:k≠0)(o:∀x,ev f x=k*ev g x)
(n:¬Stb g x y->∀f1 l1 d j,l=f1::l1->m=d::j->0<k*ev f1 x*ev d x/\0<k*ev f1 y*ev d y):
 DP (JF (f::l) x)+DP (JF (g::m) y)=DP (JF (f::l) y)+DP (JF (g::m) x):=by
 have C:0<k*k:=by
  rcases JX 0 k with e|e
  . grind[Rat.mul_pos]
  . rcases Rat.le_iff_lt_or_eq.1 e with c|c
    . have:=Rat.mul_pos (a:=-k) (b:=-k) DK DK;grind
    . exact absurd c hk
 have p:ev f x*ev f y=(k*k)*(ev g x*ev g y):=by rw[o,o];grind
 by_cases hs:Stb g x y
 . have i:Stb f x y:=by unfold Stb at *;rw[p];exact Rat.mul_pos C hs
   have:=h.stay i;have:=c.stay hs;omega
 . have i:¬Stb f x y:=λq=>hs (by
    unfold Stb at *;rw[p]at q;rcases JX (ev g x*ev g y) 0 with r|r
    . have:=Rat.mul_nonneg (a:=k*k) (b:=-(ev g x*ev g y)) DK DK;grind
    . rcases Rat.le_iff_lt_or_eq.1 r with r|r
      . exact r
      . rw[<-r]at q;grind)
   match l,m,h,c,n hs with
   |[],_,h,_,_=>exact absurd h.o i
   |_::_,[],_,c,_=>exact absurd c.o hs
   |f1::l1,d::j,h,c,n=>
    obtain⟨p1,H⟩:=n f1 l1 d j J J;have u:=(h.adj).resolve_left i;have v:=(c.adj).resolve_left hs;obtain⟨D,E⟩:=Jz u;obtain⟨F,G⟩:=Jz v;rw[JW,JW,JW,JW,JW,JW,JW,JW,Iw D,Iw E,Iw F,Iw G,h.tail.same _ l1 f1 (Aa _) u,c.tail.same _ j d (Aa _) v];have t:∀z,0<k*ev f1 z*ev d z->(ev f z*ev f1 z<0↔ev g z*ev d z<0):=λz B=>by
     have w:ev f z*ev f1 z=ev g z*(k*ev f1 z):=by rw[o];grind
     rw[w];by_cases s:ev g z=0
     . rw[s];grind
     . have A:0<ev g z*ev g z:=by
        rcases JX 0 (ev g z)with e|e
        . grind[Rat.mul_pos]
        . rcases Rat.le_iff_lt_or_eq.1 e with c|c
          . have:=Rat.mul_pos (a:=-(ev g z)) (b:=-(ev g z)) DK DK;grind
          . exact absurd c s
       exact NA A B
    grind
end
end
def Se:List (List Rat)->Prop
 |[]=>False
 |[f]=>∃c:Rat,c≠0/\∀x,ev f x=c
 |[_,g]=>∃c:Rat,c≠0/\∀x,ev g x=c
 |f::g::h::l=>(∃(q:List Rat) (a c:Rat),0<a/\0<c/\∀x,a*ev f x=ev q x*ev g x-c*ev h x)/\Se (g::h::l)
structure StC(l:List (List Rat)):Prop where
 o:Se l
variable{f g p:List Rat}{U V a c e i u v w w2 y2:Rat}
theorem StC.one(h:c≠0)(k:∀x,ev f x=c):StC [f]:=⟨⟨c,h,k⟩⟩
def StC.two(h:c≠0)(k:∀x,ev g x=c):StC [f,g]:=⟨⟨c,h,k⟩⟩
def StC.more{h q:List Rat}{l:List (List Rat)}(b:0<a)(d:0<c)(k:∀x,a*ev f x=ev q x*ev g x-c*ev h x)(n:StC (g::h::l)):StC (f::g::h::l):=⟨⟨⟨q,a,c,b,d,k⟩,n.o⟩⟩
def Hc:(0:Rat)<1/4:=DK
theorem Jo(c x:Rat):ev [c] x=c:=by simp[ev];grind
def XG(g:c≠0)(h:∀x,ev f x=c)(x y:Rat):Stb f x y:=by
 unfold Stb;rw[h,h];rcases JX 0 c with d|d
 . grind[Rat.mul_pos]
 . rcases Rat.le_iff_lt_or_eq.1 d with e|e
   . have:=Rat.mul_pos (a:=-c) (b:=-c) DK DK;grind
   . exact absurd e g
def StC.cop:∀ {f g:List Rat} {l:List (List Rat)},StC (f::g::l)->∃u v:List Rat,∀x,ev u x*ev f x+ev v x*ev g x=1
 |_,_,[],⟨⟨c,b,d⟩⟩=>by
  refine⟨[],[1/c],λx=>?_⟩;grind[ev]
 |f,g,h::l,⟨⟨⟨q,a,c,i,b,d⟩,e⟩⟩=>by
  have hn:StC (g::h::l):=⟨e⟩;obtain⟨u,v,k⟩:=StC.cop hn;have j:c≠0:=DK
  refine⟨Ji [-(a/c)] v,Xx u (Ji [1/c] (Ji v q)),λx=>?_⟩;grind[Je,Ye,ev]
def KP{f g:Rat}(h:u*f+v*g=1)(b:Wi U u)(a:Wi e f)(c:U*e<=1/4):3/4<=v*g:=by
 have:=(b.mul a).2;grind
def StC.gd{B:Rat}(j:0<=B):∀ {l:List (List Rat)},StC l->Sh B λx y=>Gd x y l
 |[_],⟨⟨_,m,k⟩⟩=>Sh.all λx y _ _ _=>⟨XG m k x y⟩
 |[_,_],⟨⟨_,m,k⟩⟩=>Sh.all λx y _ _ _=>⟨XG m k x y⟩
 |f::g::h::l,⟨⟨⟨q,a,c,X,m,k⟩,ae⟩⟩=>by
  have hn:StC (g::h::l):=⟨ae⟩;have p:=StC.gd j hn;obtain⟨u,v,ah⟩:=(StC.more X m k hn).cop;obtain⟨u2,w,ai⟩:=hn.cop;obtain⟨U1,p1,R⟩:=XN u j;obtain⟨U2,p2,S⟩:=XN v j;obtain⟨T,p3,U⟩:=XN u2 j;obtain⟨i,t,V⟩:=XN w j;obtain⟨Q,M,P⟩:=XN q j;have d:∀ {r K:Rat},0<r->0<K->K*(r/K)=r:=λ_ hK=>by grind
  have E:=(((Xe f j (Yk Hc p1)).and (Xe g j (Yk Hc p2))).and ((Xe g j (Yk Hc p3)).and (Xe g j (Yk (Yk (show(0:Rat)<c/2 by grind) t) M)))).and p;refine E.mono λx y L hy aj ⟨⟨⟨tf,tg⟩,an,ap⟩,p⟩=>?_;refine⟨⟨?_,λhn=>?_,p.o⟩⟩
  . by_cases N:Stb f x y
    . exact Or.inl N
    . by_cases sg:Stb g x y
      . exact Or.inr sg
      . exfalso
        have C:=KP (ah x) (R x L) (tf N).1 DK;have n:=((S x L).mul (tg sg).1).2;grind
  . have am:∀z,Wi B z->Wi (1/4/T) (ev g z)->Wi (c/2/i/Q) (ev g z)->ev f z*ev h z<0:=λz o w1 w2=>by
     have C:=KP (ai z) (U z o) w1 DK;have n:=(P z o).mul w2;rw[d (Yk (show(0:Rat)<c/2 by grind) t) M]at n;have D:=k z;have F:=V z o;have G:Wi (c/2) (i*(ev q z*ev g z)):=by
      have:=(show Wi i i from⟨DK,DK⟩).mul n;rwa[d (show(0:Rat)<c/2 by grind) t]at this
     have A:ev h z≠0:=λe=>by rw[e]at C;grind
     rcases JX 0 (ev h z)with s|s
     . have s:0<ev h z:=by
        rcases Rat.le_iff_lt_or_eq.1 s with s|s
        . exact s
        . exact absurd s.symm A
       have W:3/4<=i*ev h z:=by
        have:=Rat.mul_nonneg (a:=i-ev w z) (b:=ev h z) (by have:=F.2;grind) DK;grind
       have H:i*(a*ev f z)<0:=by
        rw[D];have:=Rat.mul_nonneg (a:=c) (b:=i*ev h z-3/4) DK DK;have:=G.2;grind
       have I:ev f z<0:=by
        rcases JX 0 (ev f z)with r|r
        . have:=Rat.mul_nonneg (a:=i*a) (b:=ev f z) (Rat.mul_nonneg DK DK) r;grind
        . rcases Rat.le_iff_lt_or_eq.1 r with r|r
          . exact r
          . rw[r]at H;grind
       have:=Rat.mul_pos (a:=-ev f z) (b:=ev h z) DK s;grind
     . have s:ev h z<0:=by
        rcases Rat.le_iff_lt_or_eq.1 s with s|s
        . exact s
        . exact absurd s A
       have W:i*ev h z<=-(3/4):=by
        have:=Rat.mul_nonneg (a:=i+ev w z) (b:=-ev h z) (by have:=F.1;grind) DK;grind
       have H:0<i*(a*ev f z):=by
        rw[D];have:=Rat.mul_nonneg (a:=c) (b:=-(i*ev h z)-3/4) DK DK;have:=G.1;grind
       have I:0<ev f z:=by
        rcases JX (ev f z) 0 with r|r
        . have:=Rat.mul_nonneg (a:=i*a) (b:=-ev f z) (Rat.mul_nonneg DK DK) DK;grind
        . grind
       have:=Rat.mul_pos (a:=ev f z) (b:=-ev h z) I DK;grind
    grind
def steps{d:Rat}(i:0<d)(a b:Rat):∃n:Nat,b-a<=(n:Rat)*d:=by
 obtain⟨q,hq⟩:=ex ((b-a)/d);refine⟨q.ceil.toNat,?_⟩;have e:b-a=q*d:=by rw[<-hq,Ak DK]
 rw[e];have g:q<=(q.ceil.toNat:Rat):=by
  have c:q<=(q.ceil:Rat):=Rat.le_ceil;have f:(q.ceil:Rat)<=((q.ceil.toNat:Int):Rat):=Rat.intCast_le_intCast.2 (Int.self_le_toNat _);exact Rat.le_trans c f
 have:=Rat.mul_nonneg (a:=(q.ceil.toNat:Rat)-q) (b:=d) DK DK;grind
def glue{B:Rat}{F G:Rat->Nat}(h:Sh B λx y=>F x+G y=F y+G x){b:Rat}(c:Wi B a)(i:Wi B b)(e:a<=b):F a+G b=F b+G a:=by
 obtain⟨d,d0,h⟩:=h;obtain⟨n,hn⟩:=steps d0 a b
 have:∀(n:Nat) (a:Rat),Wi B a->a<=b->b-a<=(n:Rat)*d->F a+G b=F b+G a:=by
  intro n;induction n with
  |zero=>
   intro a c e f;grind
  |succ n l=>
   intro a c e f;have j:((n+1:Nat):Rat)=(n:Rat)+1:=by rw[Rat.natCast_add];rfl
   rw[j]at f;rcases JX (b-a) d with g|g
   . exact h a b c i e g
   . have k:Wi B (a+d):=⟨by have:=c.1;grind,by have:=i.2;grind⟩;grind
 exact this n a c e hn
theorem Xg(a:Rat):0<=a*a:=by
 rcases JX 0 a with h|h
 . exact Rat.mul_nonneg h h
 . have:=Rat.mul_nonneg (a:=-a) (b:=-a) DK DK;grind
def Lm(h:Wi V v):v*v<=V*V:=by
 have:=Rat.mul_nonneg (a:=V-v) (b:=V+v) (by have:=h.2;grind) (by have:=h.1;grind);grind
def cW{y d c:Rat}(k:Wi U u)(hv:Wi V v)(m:Wi i y)(f:Wi e a)(j:Wi d w2)(n:Wi c y2)(z:u*w+v*y=1)(l:w=a*w2)
(o:U*(e*d)<=1/4)(p:(V*V)*(e*(i*c))<=1/16):1/2<=(V*V)*(y*(y-a*y2)):=by
 have g:=(k.mul (f.mul j)).2;rw[<-l]at g;have q:3/4<=v*y:=DK
 have r:=Rat.mul_nonneg (a:=V*V-v*v) (b:=y*y) (by have:=Lm hv;grind) (Xg y);have s:=Rat.mul_nonneg (a:=v*y-3/4) (b:=v*y+3/4) DK DK;have t:=(f.mul (m.mul n)).2;have x:=Rat.mul_nonneg (a:=V*V) (b:=e*(i*c)-a*(y*y2)) (Xg V) DK;grind
def cX{y c A A1 d f n:Rat}(D:Wi U u)(hv:Wi V v)(o:Wi A a)(B:Wi A1 i)(m:Wi e w2)(g:Wi d c)(p:Wi f y2)(X:u*w+v*y=1)(E:w=a*w2)
(k:y=i*w2+a*(c+y2))(hn:0<n)(hp:n<=y2*c)(F:U*(A*e)<=1/4)(G:V*(A1*e)<=1/4)
(s:((V*(d+f))*(V*(d+f)))*((A1*e)*(A*(d+d+f)))<=n/8):n/8<=((V*(d+f))*(V*(d+f)))*(y*(i*w2+a*c)):=by
 obtain⟨M,hM⟩:=ex (V*(d+f));have j:=hv.mul (g.add p);rw[hM]at j s ⊢;have x:=(D.mul (o.mul m)).2;rw[<-E]at x;obtain⟨t,C⟩:=ex (i*w2);have l:=B.mul m;rw[C]at l k ⊢;have P:=(hv.mul l).2;have z:v*y=v*t+a*(v*(c+y2)):=by rw[k];grind
 obtain⟨q,hq⟩:=ex (v*(c+y2));rw[hq]at z j;have Q:1/2<=a*q:=DK
 have R:=Rat.mul_nonneg (a:=a*a) (b:=M*M-q*q) (Xg a) (by have:=Lm j;grind);have S:=Rat.mul_nonneg (a:=a*q-1/2) (b:=a*q+1/2) DK DK;have T:1/4<=(a*a)*(M*M):=DK
 have W:=Rat.mul_nonneg (a:=(a*a)*(M*M)-1/4) (b:=n) DK DK;have H:=Rat.mul_nonneg (a:=(a*a)*(M*M)) (b:=y2*c-n) DK DK;have I:=Rat.mul_nonneg (a:=(a*a)*(M*M)) (b:=c*c) DK (Xg c);have K:=Rat.mul_nonneg (a:=M*M) (b:=t*t) (Xg M) (Xg t);have L:=(l.mul (o.mul ((g.add g).add p))).1;have N:=Rat.mul_nonneg (a:=M*M) (b:=t*(a*(c+c+y2))+(A1*e)*(A*(d+d+f))) (Xg M) DK;have r:y*(t+a*c)=t*t+t*(a*(c+c+y2))+(a*a)*(c*c)+(a*a)*(y2*c):=by rw[k];grind
 rw[r];grind
def small{K r:Rat}(d:0<=K)(c:0<r):∃e,0<e/\∀f,f<=e->K*f<=r:=by
 refine⟨r/(K+1),Yk c DK,λf k=>?_⟩;have g:r/(K+1)*(K+1)=r:=Ak DK;have i:=Rat.mul_nonneg (a:=K) (b:=r/(K+1)-f) d DK;have j:=Yk c (show(0:Rat)<K+1 by grind);grind
def Sf{s:Rat}(hs:s*s=1):∀(p:List Rat),Jc p=p->p≠[]->∃B e:Rat,0<B/\0<e/\∀x,B<=x->e<=s^(p.length-1)*cf p (p.length-1)*ev p (s*x):=by
 intro p;induction p with
 |nil=>intro _ h;exact absurd J h
 |cons c t l=>
  intro tp p0;by_cases d:t=[]
  . subst d;have c0:c≠0:=by
     have:=Ju tp p0;simpa[cf]using this
    refine⟨1,c*c,DN,?_,λx _=>?_⟩
    . have:=XG (f:=[c]) c0 (λx=>Jo c x) 0 0;unfold Stb at this;rwa[Jo]at this
    . rw[Jo];simp[cf]
  . have m:Jc t=t:=by
     refine Oy (Or.inr ?_);have:=Ju tp p0;have hl:=Ac.2 d;rw[Ah,show t.length+1-1=(t.length-1)+1 by omega,Yo]at this;exact this
    obtain⟨B,e,y,g,h⟩:=l m d;have hl:=Ac.2 d;obtain⟨n,hn⟩:∃n,t.length=n+1:=⟨t.length-1,O⟩;have hk:cf (c::t) ((c::t).length-1)=cf t n:=by
     rw[Ah,hn,show n+1+1-1=n+1 by omega,Yo]
    rw[hk,Ah,hn,show n+1+1-1=n+1 by omega];rw[hn,show n+1-1=n by omega]at h;generalize cf t n=k at *;obtain⟨D,hD,j⟩:=JN (s^(n+1)*k*c);refine⟨B+(D+e)/e,e,?_,g,λx z=>?_⟩
    . have:=Yk (a:=D+e) (b:=e) DK g;grind
    . have o:=Yk (a:=D+e) (b:=e) DK g;have q:=h x DK;have r:(D+e)/e*e=D+e:=Ak DK;rw[Hw];have i:s^(n+1)*k*(c+s*x*ev t (s*x))=s^(n+1)*k*c+x*(s^n*k*ev t (s*x)):=by
       rw[Rat.pow_succ];grind
      rw[i];have u:=Rat.mul_nonneg (a:=x) (b:=s^n*k*ev t (s*x)-e) DK DK;have v:=Rat.mul_nonneg (a:=x-(D+e)/e) (b:=e) DK DK;have w:=j.1;grind
def Sg(tp:Jc p=p)(p0:p≠[]):∃B,0<B/\∀x,B<=x->0<cf p (p.length-1)*ev p x:=by
 obtain⟨B,e,a,f,b⟩:=Sf (s:=1) DK p tp p0;refine⟨B,a,λx c=>?_⟩;have g:=b x c;have d:∀n:Nat,(1:Rat)^n=1:=λn=>by
  induction n with
  |zero=>rfl
  |succ n i=>grind
 grind
def Si(tp:Jc p=p)(p0:p≠[]):∃B,0<B/\∀x,x<=-B->0<(-1)^(p.length-1)*cf p (p.length-1)*ev p x:=by
 obtain⟨B,e,a,d,b⟩:=Sf (s:=-1) DK p tp p0;refine⟨B,a,λx f=>?_⟩;have c:=b (-x) DK;rw[show(-1:Rat)*-x=x by grind]at c;grind
def Sj:∀(l m:List Rat) (a b:Rat),l.length=m.length->(∀i (k:i<l.length) (e:i<m.length),0<l[i]*m[i])->(0<a*b\/(a=0/\b=0))->Xf a l=Xf b m:=by
 intro l;induction l with
 |nil=>intro m a b h _ _;cases m with|nil=>rfl|cons=>simp at h
 |cons c l n=>
  intro m a b h e f;cases m with
  |nil=>simp at h
  |cons d m=>
   have g:0<c*d:=e 0 DL DL;obtain⟨o,p⟩:=Jz g;have j:=n m c d (by simpa using h) (λi k q=>e (i+1) si si) (Or.inl g);rw[XZ o,XZ p,j];rcases f with f|⟨rfl,rfl⟩
   . grind[NA]
   grind

