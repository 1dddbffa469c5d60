import Derived.Test.YtdmmbgahnkbnaaaGreatDoorV00
set_option linter.all false
set_option maxRecDepth 99999
set_option maxHeartbeats 0
namespace Go.Proofs.YtdmmbgahnkbnaaaGreatDoor
section
def BF:type_of% @if_pos:=@if_pos
def BE:type_of% @if_neg:=@if_neg
def cf(p:List Rat)(i:Nat):Rat:=p[i]?.getD 0
variable{p q:List Rat}{i k n:Nat}{K L u v:Rat}
theorem X6(i:Nat):cf [] i=0:=by simp[cf]
theorem Xh(c:Rat)(t:List Rat):cf (c::t) 0=c:=by simp[cf]
theorem Yq(c:Rat)(t:List Rat)(i:Nat):cf (c::t) (i+1)=cf t i:=by simp[cf]
theorem Ys(h:p.length<=i):cf p i=0:=by simp[cf,List.getElem?_eq_none h]
def bX(h:i<p.length):cf p i=p[i]:=by simp[cf,List.getElem?_eq_getElem h]
theorem Sd(p:List Rat)(c:Rat)(i:Nat):cf (p++[c]) i=if i=p.length then c else cf p i:=by
 grind[cf]
theorem Gk(p:List Rat)(k:Nat)(c:Rat)(i:Nat)(hk:k<p.length):cf (p.set k c) i=if i=k then c else cf p i:=by
 grind[cf]
theorem Yg(n:Nat)(i:Nat):cf (List.replicate n 0) i=0:=by
 grind[cf]
theorem O6(n:Nat)(f:Nat->Rat)(i:Nat):cf ((List.range n).map f) i=if i<n then f i else 0:=by
 grind[cf]
theorem O7(p:List Rat)(n i:Nat):cf (p.take n) i=if i<n then cf p i else 0:=by
 grind[cf]
def Jc:List Rat->List Rat
 |[]=>[]
 |c::t=>match Jc t with
  |[]=>if c=0 then []else [c]
  |d::s=>c::d::s
theorem YD(p:List Rat)(i:Nat):cf (Jc p) i=cf p i:=by
 induction p generalizing i with
 |nil=>rfl
 |cons c t b=>
  have a:=b;rw[Jc];split
  . rename_i h;rw[h]at a;cases i with
    |zero=>split<;>simp_all [cf]
    |succ i=>
     grind[Yq,X6]
  . rename_i d s h;rw[<-h];cases i with
    |zero=>rfl
    |succ i=>rw[Yq,Yq,a]
theorem PA(h:∀i,cf p i=0):Jc p=[]:=by
 induction p with
 |nil=>rfl
 |cons c t a=>
  have b:=a (λi=>by rw[<-Yq c t i];exact h (i+1));grind[Xh,Jc]
theorem Iv(h:∀i,cf p i=cf q i):Jc p=Jc q:=by
 induction p generalizing q with
 |nil=>grind[PA,X6]
 |cons c t e=>
  cases q with
  |nil=>grind[PA,X6]
  |cons d s=>
   have a:c=d:=by have:=h 0;rwa[Xh,Xh]at this
   have b:=e (q:=s) (λi=>by have:=h (i+1);rwa[Yq,Yq]at this);rw[Jc,Jc,a,b]
def Yu(p:List Rat):Jc (Jc p)=Jc p:=Iv (YD p)
theorem YI(p:List Rat):(Jc p).length<=p.length:=by
 induction p with
 |nil=>exact Aa _
 |cons c t a=>
  grind[Jc]
theorem Jt(h:Jc p=p)(a:p≠[]):cf p (p.length-1)≠0:=by
 induction p with
 |nil=>exact absurd rfl a
 |cons c t b=>
  grind[Jc,cf]
theorem XA(h:p=[]\/cf p (p.length-1)≠0):Jc p=p:=by
 induction p with
 |nil=>rfl
 |cons c t a=>
  grind[Jc,cf]
theorem bY(hn:n<=p.length)(a:n=0\/cf p (n-1)≠0)(b:∀j,n<=j->cf p j=0):Jc p=p.take n:=by
 have e:Jc p=Jc (p.take n):=Iv λi=>by
  grind[O7]
 grind[XA,O7]
theorem PB(h:∀j,n<=j->cf p j=0):(Jc p).length<=n:=by
 rcases A4 n (Jc p).length with a|a
 . have b:=Jt (Yu p) DH;grind[YD]
 . exact a
def ev:List Rat->Rat->Rat
 |[],_=>0
 |c::t,x=>c+x*ev t x
theorem Lp(h:∀i,cf p i=0)(x:Rat):ev p x=0:=by
 induction p with
 |nil=>rfl
 |cons c t a=>
  have b:=a (λi=>by rw[<-Yq c t i];exact h (i+1));grind[Xh,ev]
theorem Lq(h:∀i,cf p i=cf q i)(x:Rat):ev p x=ev q x:=by
 induction p generalizing q with
 |nil=>grind[Lp,X6]
 |cons c t e=>
  cases q with
  |nil=>grind[Lp,X6]
  |cons d s=>
   have a:c=d:=by have:=h 0;rwa[Xh,Xh]at this
   have b:=e (q:=s) (λi=>by have:=h (i+1);rwa[Yq,Yq]at this);rw[ev,ev,a,b]
theorem G9(p:List Rat)(x:Rat):ev (Jc p) x=ev p x:=Lq (YD p) x
def dv:List Rat->Rat->Rat
 |[],_=>0
 |_::t,x=>ev t x+x*dv t x
theorem Se(h:∀i,cf p i=0)(x:Rat):dv p x=0:=by
 induction p with
 |nil=>rfl
 |cons c t b=>
  have a:∀i,cf t i=0:=λi=>by rw[<-Yq c t i];exact h (i+1)
  rw[dv,b a,Lp a];grind
theorem Sf(h:∀i,cf p i=cf q i)(x:Rat):dv p x=dv q x:=by
 induction p generalizing q with
 |nil=>grind[Se,X6]
 |cons c t b=>
  cases q with
  |nil=>grind[Se,X6]
  |cons d s=>
   have a:∀i,cf t i=cf s i:=λi=>by have:=h (i+1);rwa[Yq,Yq]at this
   rw[dv,dv,b a,Lq a]
def Ha:List Rat->Rat->List Rat
 |[],_=>[]
 |_::t,a=>match t with
  |[]=>[]
  |d::s=>ev (d::s) a::Ha (d::s) a
def bZ(p:List Rat)(a:Rat):(Ha p a).length=p.length-1:=by
 induction p with
 |nil=>rfl
 |cons c t b=>
  cases t with
  |nil=>rfl
  |cons d s=>
   rw[Ha,Ah,b];simp
theorem ND(p:List Rat)(a x:Rat):ev p x=ev p a+(x-a)*ev (Ha p a) x:=by
 induction p with
 |nil=>simp[ev,Ha];grind
 |cons c t b=>
  cases t with
  |nil=>simp[ev,Ha];grind
  |cons d s=>
   grind[Ha,ev]
theorem bp{m:Nat}(h:∀n:Nat,m<=n->ev p (n:Rat)=0)(x:Rat):ev p x=0:=by
 obtain⟨k,hk⟩:=ex (p.length);induction k generalizing p m with
 |zero=>
  have:p=[]:=AH hk
  rw[this];rfl
 |succ k d=>
  have a:=h m (Aa _);have b:∀n:Nat,m+1<=n->ev (Ha p m) (n:Rat)=0:=λn hn=>by
   grind[ND,Rat.natCast_inj]
  have c:=d b (by rw[bZ,hk];rfl);rw[ND p (m:Rat) x,a,c];grind
theorem br(h:∀x,ev p x=0)(i:Nat):cf p i=0:=by
 induction p generalizing i with
 |nil=>rfl
 |cons c t g=>
  have a:c=0:=by have:=h 0;rw[ev]at this;grind
  have b:∀x,ev t x=0:=λx=>bp (m:=1) (λn hn=>by
   have d:=h (n:Rat);rw[ev,a]at d;have j:(n:Rat)≠0:=λe=>by
    have f:(n:Rat)=((0:Nat):Rat):=e;have:=Rat.natCast_inj.1 f;omega
   grind) x
  cases i with
  |zero=>rw[Xh];exact a
  |succ i=>rw[Yq];exact g b i
def EA:List Rat->List Rat->List Rat
 |[],q=>q
 |p,[]=>p
 |c::t,d::s=>(c+d)::EA t s
def XN(a:Rat)(p:List Rat):List Rat:=p.map λc=>c*a
def Et:List Rat->List Rat->List Rat
 |[],_=>[]
 |c::t,q=>EA (XN c q) (0::Et t q)
theorem Iw(p q:List Rat)(i:Nat):cf (EA p q) i=cf p i+cf q i:=by
 induction p generalizing q i with
 |nil=>rw[EA,X6];grind
 |cons c t a=>
  cases q with
  |nil=>
   grind[EA,X6]
  |cons d s=>
   rw[EA];cases i with
   |zero=>simp[cf]
   |succ i=>rw[Yq,Yq,Yq,a]
theorem LE(a:Rat)(p:List Rat)(i:Nat):cf (XN a p) i=cf p i*a:=by
 grind[cf,XN]
theorem Hy(p q:List Rat)(x:Rat):ev (EA p q) x=ev p x+ev q x:=by
 induction p generalizing q with
 |nil=>rw[EA,ev];grind
 |cons c t a=>
  cases q with
  |nil=>
   grind[EA,ev]
  |cons d s=>rw[EA,ev,ev,ev,a];grind
theorem Ix(a:Rat)(p:List Rat)(x:Rat):ev (XN a p) x=ev p x*a:=by
 induction p with
 |nil=>simp[XN,ev]
 |cons c t b=>
  grind[XN,ev]
theorem PC(p q:List Rat)(x:Rat):ev (Et p q) x=ev p x*ev q x:=by
 induction p with
 |nil=>rw[Et,ev];grind
 |cons c t a=>rw[Et,Hy,Ix,ev,ev,a];grind
theorem bv(p q:List Rat)(x:Rat):dv (EA p q) x=dv p x+dv q x:=by
 induction p generalizing q with
 |nil=>rw[EA,dv];grind
 |cons c t a=>
  cases q with
  |nil=>
   grind[EA,dv]
  |cons d s=>rw[EA,dv,dv,dv,a,Hy];grind
theorem Sg(a:Rat)(p:List Rat)(x:Rat):dv (XN a p) x=dv p x*a:=by
 induction p with
 |nil=>simp[XN,dv]
 |cons c t b=>
  grind[XN,dv,Ix]
theorem cA(p q:List Rat)(x:Rat):dv (Et p q) x=dv p x*ev q x+ev p x*dv q x:=by
 induction p with
 |nil=>rw[Et,dv,ev];grind
 |cons c t a=>grind[Et,bv,Sg,dv,ev,PC]
theorem PD(h:∀x,ev p x=ev q x):Jc p=Jc q:=by
 have a:∀i,cf (EA p (XN (-1) q)) i=0:=br (λx=>by rw[Hy,Ix,h x];grind);refine Iv λi=>?_;have:=a i;rw[Iw,LE]at this;grind
def Ds:Nat->(Nat->Rat)->Rat
 |0,_=>0
 |n+1,f=>Ds n f+f n
theorem PE{f:Nat->Rat}(h:∀k,k<n->f k=0):Ds n f=0:=by
 induction n with
 |zero=>rfl
 |succ n a=>grind[Ds]
theorem cC(n:Nat)(f:Nat->Rat):Ds (n+1) f=f 0+Ds n (λk=>f (k+1)):=by
 induction n with
 |zero=>simp[Ds];grind
 |succ n a=>rw[Ds,a,Ds];grind
def conv(p q:List Rat)(n k:Nat):Rat:=Ds n λi=>if i<=k then cf p i*cf q (k-i)else 0
theorem LF(p q:List Rat)(k:Nat):cf (Et p q) k=conv p q p.length k:=by
 induction p generalizing k with
 |nil=>rfl
 |cons c t a=>
  rw[Et,Iw,LE,conv,Ah,cC];rw[BF (As _),Xh,Fj];have e:cf (0::Et t q) k=Ds t.length (λi=>if i+1<=k then cf (c::t) (i+1)*cf q (k-(i+1))else 0):=by
   cases k with
   |zero=>
    grind[Xh,PE]
   |succ k=>
    grind[Yq,conv]
  rw[e];grind
theorem cD(p q:List Rat)(h:p.length<=n):conv p q n k=conv p q p.length k:=by
 induction n with
 |zero=>grind
 |succ n b=>
  by_cases a:p.length=n+1
  . rw[a]
  . rw[<-b O];show conv p q n k+_=_
    grind[Ys]
theorem cE(h:p.length+q.length<=k+1):cf (Et p q) k=0:=by
 rw[LF];refine PE λi hi=>?_;grind[Ys]
theorem PF(p q:List Rat)(m n:Nat)(hp:p.length=m+1)(hq:q.length=n+1):cf (Et p q) (m+n)=cf p m*cf q n:=by
 grind[LF,conv,Ds,PE,Ys]
theorem Si(hp:Jc p=p)(hq:Jc q=q)(d:p≠[])(e:q≠[]):(Jc (Et p q)).length=p.length+q.length-1:=by
 have f:=Jt hp d;have g:=Jt hq e;have l1:0<p.length:=Ae.2 d;have l2:0<q.length:=Ae.2 e;have i:=PF p q (p.length-1) (q.length-1) O O;have b:cf (Et p q) (p.length-1+(q.length-1))≠0:=by
  rw[i];intro c;rcases AM.1 c with a|a
  . exact f a
  . exact g a
 have c:(Jc (Et p q)).length<=p.length+q.length-1:=PB λj k=>cE O;rcases A4 (Jc (Et p q)).length (p.length+q.length-1)with a|a
 . rw[<-YD]at b;exact absurd (Ys O) b
 . omega
def IM(p:List Rat):List Rat:=(List.range (p.length-1)).map λi=>cf p (i+1)*((i+1:Nat):Rat)
theorem LG(p:List Rat)(i:Nat):cf (IM p) i=cf p (i+1)*((i+1:Nat):Rat):=by
 grind[IM,O6,Ys]
theorem cF(p:List Rat)(x:Rat):ev (IM p) x=dv p x:=by
 induction p with
 |nil=>rfl
 |cons c t a=>
  have e:∀i,cf (IM (c::t)) i=cf (EA t (0::IM t)) i:=λi=>by
   rw[LG,Iw,Yq];cases i with
   |zero=>rw[Xh];grind
   |succ i=>rw[Yq,LG];grind
  rw[Lq e,Hy,ev,a,dv];grind
def cG(p:List Rat):EA p []=p:=by cases p<;>rfl
theorem cH{u v b a:List Rat}(hq:Jc q=q)(p:q≠[])(r:Jc u=u)(s:Jc b=b)(hv:Jc v=v)(t:Jc a=a)(w:v.length<q.length)(y:a.length<q.length)
(h:∀x,ev q x*ev u x+ev v x=ev q x*ev b x+ev a x):u=b/\v=a:=by
 obtain⟨d,c⟩:=ex (Jc (EA u (XN (-1) b)));have l:Jc d=d:=by rw[<-c,Yu]
 have m:∀x,ev d x=ev u x-ev b x:=λx=>by rw[<-c,G9,Hy,Ix];grind
 have e:∀x,ev (Et d q) x=ev (EA a (XN (-1) v)) x:=λx=>by
  grind[PC,Hy,Ix]
 have g:=PD e;have i:(Jc (EA a (XN (-1) v))).length<q.length:=by
  refine Cz (PB (n:=q.length-1) λj o=>?_) O;rw[Iw,LE,Ys O,Ys O];grind
 have k:d=[]:=by
  by_cases f:d=[]
  . exact f
  . grind[Si,Ae]
 grind[ev,PD]
def Gl(i:Nat)(q:List Rat):List Rat:=List.replicate i 0++q
theorem NE(i:Nat)(q:List Rat)(k:Nat):cf (Gl i q) k=if i<=k then cf q (k-i)else 0:=by
 grind[cf,Gl]
theorem Sj(i:Nat)(q:List Rat)(x:Rat):ev (Gl i q) x=x^i*ev q x:=by
 induction i with
 |zero=>rw[show Gl 0 q=q from rfl];grind
 |succ i a=>
  grind[Gl,ev]
def Xi(z:List Rat)(i:Nat)(a:Rat)(q:List Rat):Nat->List Rat
 |0=>z
 |j+1=>(Xi z i a q j).set (i+j) (cf (Xi z i a q j) (i+j)+a*cf q j)
theorem Lr(z:List Rat)(i:Nat)(a:Rat)(q:List Rat)(j:Nat):(Xi z i a q j).length=z.length:=by
 induction j with
 |zero=>rfl
 |succ j b=>rw[Xi,Fm,b]
theorem cI(z:List Rat)(i:Nat)(a:Rat)(q:List Rat)(j k:Nat)(h:i+j<=z.length):cf (Xi z i a q j) k=cf z k+(if i<=k/\k<i+j then a*cf q (k-i)else 0):=by
 induction j with
 |zero=>rw[Xi,BE O];grind
 |succ j b=>
  grind[Xi,Gk,Lr]
theorem PG(z:List Rat)(i:Nat)(a:Rat)(q:List Rat)(k:Nat)(h:i+q.length<=z.length):cf (Xi z i a q q.length) k=cf z k+a*cf (Gl i q) k:=by
 grind[cI,NE,Ys]
theorem cJ(z:List Rat)(i:Nat)(a:Rat)(q:List Rat)(x:Rat)(h:i+q.length<=z.length):ev (Xi z i a q q.length) x=ev z x+a*(x^i*ev q x):=by
 have e:∀k,cf (Xi z i a q q.length) k=cf (EA z (XN a (Gl i q))) k:=λk=>by
  grind[PG,Iw,LE]
 rw[Lq e,Hy,Ix,Sj];grind
def E9(p q:List Rat)(n:Nat):Nat->List Rat
 |0=>List.replicate n 0
 |i+1=>Xi (E9 p q n i) i (cf p i) q q.length
def PH(p q:List Rat)(n i:Nat):(E9 p q n i).length=n:=by
 induction i with
 |zero=>rw[E9,AK]
 |succ i a=>rw[E9,Lr,a]
theorem Sk(p q:List Rat)(n i k:Nat)(h:i=0\/i+q.length<=n+1):cf (E9 p q n i) k=conv p q i k:=by
 induction i with
 |zero=>rw[E9,Yg];rfl
 |succ i a=>
  rw[E9,PG _ _ _ _ _ (by rw[PH];omega),a O,NE];show _=conv p q i k+_
  grind
def JO(p q:List Rat)(n m:Nat):Nat->List Rat × List Rat
 |0=>(List.replicate m 0,p)
 |k+1=>
  let s:=JO p q n m k
  let i:=m-(k+1)
  let c:=cf s.2 (i+n)/cf q n
  (s.1.set i c,Xi s.2 i (-c) q q.length)
theorem Xu(p q:List Rat)(n m k:Nat):(JO p q n m k).1.length=m/\(JO p q n m k).2.length=p.length:=by
 induction k with
 |zero=>exact⟨AK,rfl⟩
 |succ k a=>grind[JO,Lr]
theorem cK(p:List Rat)(i:Nat)(c:Rat)(x:Rat)(hi:i<p.length)(a:cf p i=0):ev (p.set i c) x=ev p x+c*x^i:=by
 have e:∀k,cf (p.set i c) k=cf (EA p (Gl i [c])) k:=λk=>by
  grind[Gk,Iw,NE,Xh,Ys]
 rw[Lq e,Hy,Sj];simp[ev];grind
theorem Sl(p q:List Rat)(n m:Nat)(hq:q.length=n+1)(hl:cf q n≠0)(e:m+n=p.length):∀k,k<=m->
 (∀x,ev p x=ev q x*ev (JO p q n m k).1 x+ev (JO p q n m k).2 x)/\(∀j,j<m-k->cf (JO p q n m k).1 j=0)/\(∀j,m-k+n<=j->cf (JO p q n m k).2 j=0):=by
 intro k;induction k with
 |zero=>
  intro _;grind[Yg,Ys,JO,Lp]
 |succ k a=>
  intro hk;obtain⟨b,c,d⟩:=a O;obtain⟨l1,l2⟩:=Xu p q n m k;rw[JO];grind[cK,cJ,Gk,PG,NE,Ys]
def Jn(p q:List Rat):List Rat:=Jc (JO p q (q.length-1) (p.length-(q.length-1)) (p.length-(q.length-1))).1
def JU(p q:List Rat):List Rat:=Jc (JO p q (q.length-1) (p.length-(q.length-1)) (p.length-(q.length-1))).2
theorem Y3(p q:List Rat)(hq:Jc q=q)(a:q≠[]):(∀x,ev p x=ev q x*ev (Jn p q) x+ev (JU p q) x)/\(JU p q).length<q.length/\Jc (Jn p q)=Jn p q/\Jc (JU p q)=JU p q:=by
 have l1:0<q.length:=Ae.2 a;refine⟨λx=>?_,?_,Yu _,Yu _⟩
 . unfold Jn JU;rw[G9,G9];by_cases h:q.length-1<=p.length
   . exact(Sl p q (q.length-1) (p.length-(q.length-1)) O (Jt hq a) O _ (Aa _)).1 x
   . rw[show p.length-(q.length-1)=0 from by omega,JO];grind[Lp,Yg]
 . unfold JU;refine Cz (PB (n:=q.length-1) λj b=>?_) O;by_cases h:q.length-1<=p.length
   . exact(Sl p q (q.length-1) (p.length-(q.length-1)) O (Jt hq a) O _ (Aa _)).2.2 j O
   . rw[show p.length-(q.length-1)=0 from by omega,JO];exact Ys (by dsimp only;omega)
def XB(p q:List Rat):List Rat:=Jc (EA p q)
def JT(p q:List Rat):List Rat:=Jc (EA p (XN (-1) q))
def Ji(p q:List Rat):List Rat:=Jc (Et p q)
def Jb(p:List Rat):List Rat:=Jc (IM p)
def LH(p q:List Rat):Jc (XB p q)=XB p q:=Yu _
theorem Yz(p q:List Rat):Jc (JT p q)=JT p q:=Yu _
theorem Jq(p q:List Rat):Jc (Ji p q)=Ji p q:=Yu _
theorem Ju(p:List Rat):Jc (Jb p)=Jb p:=Yu _
theorem Yc(p q:List Rat)(x:Rat):ev (XB p q) x=ev p x+ev q x:=by unfold XB;rw[G9,Hy]
theorem Xt(p q:List Rat)(x:Rat):ev (JT p q) x=ev p x-ev q x:=by grind[JT,G9,Hy,Ix]
theorem Jd(p q:List Rat)(x:Rat):ev (Ji p q) x=ev p x*ev q x:=by unfold Ji;rw[G9,PC]
def XZ(p:List Rat)(x:Rat):ev (Jb p) x=dv p x:=by unfold Jb;rw[G9,cF]
def cL(p q:List Rat)(i:Nat):cf (XB p q) i=cf p i+cf q i:=by unfold XB;rw[YD,Iw]
theorem PI(p q:List Rat)(i:Nat):cf (JT p q) i=cf p i-cf q i:=by grind[JT,YD,Iw,LE]
theorem cM(p q:List Rat):(EA p q).length=max p.length q.length:=by
 induction p generalizing q with
 |nil=>rw[EA];simp
 |cons c t a=>
  cases q with
  |nil=>rw[cG];simp
  |cons d s=>grind[EA]
def cN(p q:List Rat):(XB p q).length<=max p.length q.length:=by
 have:=YI (EA p q);rw[cM]at this;exact this
theorem YG(hp:Jc p=p)(hq:Jc q=q)(h:∀x,ev p x=ev q x):p=q:=by rw[<-hp,<-hq];exact PD h
theorem Sn(p q:List Rat):Jb (Ji p q)=XB (Ji (Jb p) q) (Ji p (Jb q)):=by
 refine YG (Ju _) (LH _ _) λx=>?_;rw[XZ,Yc,Jd,Jd,XZ,XZ,<-cA];grind[Sf,Ji,YD]
theorem JV(a b:Rat):a<=b\/b<=a:=Rat.le_total
theorem Yl{a b:Rat}(c:0<a)(d:0<b):0<a/b:=by
 have e:a/b*b=a:=Aj DH;rcases JV (a/b) 0 with h|h
 . have:=Rat.mul_nonneg (a:=-(a/b)) (b:=b) DH DH;grind
 . rcases Rat.le_iff_lt_or_eq.1 h with h|h
   . exact h
   grind
theorem cO{U V:Rat}(a:-U<=u)(b:u<=U)(c:-V<=v)(d:v<=V):-(U*V)<=u*v/\u*v<=U*V:=by
 have e:=Rat.mul_nonneg (a:=U-u) (b:=V+v) DH DH;have f:=Rat.mul_nonneg (a:=U+u) (b:=V-v) DH DH;have g:=Rat.mul_nonneg (a:=U-u) (b:=V-v) DH DH;have i:=Rat.mul_nonneg (a:=U+u) (b:=V+v) DH DH;constructor<;>grind
def Wi(K u:Rat):Prop:=-K<=u/\u<=K
def Wi.mul(h:Wi K u)(a:Wi L v):Wi (K*L) (u*v):=cO h.1 h.2 a.1 a.2
theorem Wi.add(h:Wi K u)(a:Wi L v):Wi (K+L) (u+v):=by have:=h.1;have:=h.2;have:=a.1;have:=a.2;constructor<;>grind
theorem Wi.mono(h:Wi K u)(hl:K<=L):Wi L u:=by have:=h.1;have:=h.2;constructor<;>grind
theorem Wi.neg(h:Wi K u):Wi K (-u):=by have:=h.1;have:=h.2;constructor<;>grind
def Hz(c:Rat)(p:List Rat)(x:Rat):ev (c::p) x=c+x*ev p x:=rfl
theorem JN(c:Rat):∃K,0<K/\Wi K c:=by
 rcases JV 0 c with h|h
 . exact⟨c+1,DH,by constructor<;>grind⟩
 . exact⟨-c+1,DH,by constructor<;>grind⟩
theorem XR(p:List Rat){B:Rat}(b:0<=B):∃K,0<K/\∀x,Wi B x->Wi K (ev p x):=by
 induction p with
 |nil=>exact⟨1,DK,λx _=>⟨by simp[ev];grind,by simp[ev];grind⟩⟩
 |cons c p f=>
  obtain⟨K,d,h⟩:=f;obtain⟨C,hC,e⟩:=JN c;have:=Rat.mul_nonneg b (Rat.le_of_lt d);exact⟨C+B*K,DH,λx a=>e.add (a.mul (h x a))⟩
theorem cP(p:List Rat){B:Rat}(a:0<=B):∃K,0<K/\∀x y,Wi B x->Wi B y->x<=y->Wi (K*(y-x)) (ev p x-ev p y):=by
 induction p with
 |nil=>exact⟨1,DK,λx y _ _ d=>⟨by simp[ev];grind,by simp[ev];grind⟩⟩
 |cons c p l=>
  obtain⟨K,j,h⟩:=l;obtain⟨C,hC,k⟩:=XR p a;refine⟨C+B*K+1,by have:=Rat.mul_nonneg a (Rat.le_of_lt j);grind,λx y b f d=>?_⟩;have g:Wi (y-x) (x-y):=⟨DH,DH⟩;have i:=(g.mul (k x b)).add (f.mul (h x y b f d));have e:ev (c::p) x-ev (c::p) y=(x-y)*ev p x+y*(ev p x-ev p y):=by rw[Hz,Hz];grind
  rw[e];refine i.mono ?_;grind
def Sh(B:Rat)(P:Rat->Rat->Prop):Prop:=∃d,0<d/\∀x y,Wi B x->Wi B y->x<=y->y-x<=d->P x y
section
variable {B:Rat} {P Q:Rat->Rat->Prop}
def Sh.and(h:Sh B P)(f:Sh B Q):Sh B λx y=>P x y/\Q x y:=by
 obtain⟨d,d0,h⟩:=h;obtain⟨e,g,f⟩:=f;rcases JV d e with i|i
 . exact⟨d,d0,λx y a b c l=>⟨h x y a b c l,f x y a b c DH⟩⟩
 . exact⟨e,g,λx y a b c l=>⟨h x y a b c DH,f x y a b c l⟩⟩
def Sh.mono(h:Sh B P)(hi:∀x y,Wi B x->Wi B y->x<=y->P x y->Q x y):Sh B Q:=by
 obtain⟨d,d0,h⟩:=h;exact⟨d,d0,λx y a b c l=>hi x y a b c (h x y a b c l)⟩
def Sh.all(h:∀x y,Wi B x->Wi B y->x<=y->P x y):Sh B P:=⟨1,DK,λx y a b c _=>h x y a b c⟩
end
def Stb(p:List Rat)(x y:Rat):Prop:=0<ev p x*ev p y
theorem Xj(p:List Rat){B e:Rat}(k:0<=B)(m:0<e):Sh B λx y=>¬Stb p x y->Wi e (ev p x)/\Wi e (ev p y):=by
 obtain⟨K,g,h⟩:=cP p k;refine⟨e/K,Yl m g,λx y a b c l hn=>?_⟩;have i:=h x y a b c;have j:K*(y-x)<=e:=by
  have:=Rat.mul_le_mul_of_nonneg_left l (Rat.le_of_lt g);have n:K*(e/K)=e:=by rw[AU,Aj DH]
  grind
 have f:=i.mono j;have hs:ev p x*ev p y<=0:=Rat.not_lt.1 hn;have o:=f.1;have q:=f.2;rcases JV 0 (ev p x)with p1|p1<;>rcases JV 0 (ev p y)with d|d
 . rcases Rat.le_iff_lt_or_eq.1 p1 with q1|q1
   . rcases Rat.le_iff_lt_or_eq.1 d with q2|q2
     . have:=Rat.mul_pos q1 q2;grind
     . constructor<;>constructor<;>grind
   . constructor<;>constructor<;>grind
 . constructor<;>constructor<;>grind
 . constructor<;>constructor<;>grind
 . rcases Rat.le_iff_lt_or_eq.1 p1 with q1|q1
   . rcases Rat.le_iff_lt_or_eq.1 d with q2|q2
     . have:=Rat.mul_pos (a:=- ev p x) (b:=- ev p y) DH DH;grind
     . constructor<;>constructor<;>grind
   . constructor<;>constructor<;>grind
end
section
def Xk:Rat->List Rat->Nat
 |_,[]=>0
 |a,b::l=>if b=0 then Xk a l else(if a*b<0 then 1 else 0)+Xk b l
def DM(l:List Rat):Nat:=Xk 0 l
def JD(l:List (List Rat))(x:Rat):List Rat:=l.map λp=>ev p x
variable{a b:Rat}
def JX(p:List Rat)(l:List (List Rat))(x:Rat):JD (p::l) x=ev p x::JD l x:=rfl
theorem cQ(h:a<0)(c:0<=b):a*b<=0:=by
 have:=Rat.mul_nonneg (a:=-a) (b:=b) DH c;grind
theorem So(h:a<0)(c:0<=b)(d:0<a*b):False:=by have:=cQ h c;grind
theorem NF{c d:Rat}(h:0<a*c)(j:0<b*d):a*b<0↔c*d<0:=by
 have g:0<(a*b)*(c*d):=by have:=Rat.mul_pos h j;grind
 constructor
 . intro i;rcases JV 0 (c*d)with f|f
   . exact(So i f g).elim
   . rcases Rat.le_iff_lt_or_eq.1 f with e|e
     . exact e
     . rw[e]at g;grind
 . intro i;rcases JV 0 (a*b)with f|f
   . grind[So]
   . rcases Rat.le_iff_lt_or_eq.1 f with e|e
     . exact e
     . rw[e]at g;grind
theorem Jy(h:0<a*b):a≠0/\b≠0:=⟨λe=>by rw[e]at h;grind,λe=>by rw[e]at h;grind⟩
theorem PJ(h:a*b<0):a≠0/\b≠0:=⟨λe=>by rw[e]at h;grind,λe=>by rw[e]at h;grind⟩
theorem X8(h:b≠0)(l:List Rat):Xk a (b::l)=(if a*b<0 then 1 else 0)+Xk b l:=by
 rw[Xk,BE h]
theorem Sp{g h:Rat}(hh:a*h<0)(l:List Rat):Xk a (g::h::l)=1+Xk h l:=by
 obtain⟨a0,c⟩:=PJ hh;by_cases g0:g=0
 . rw[Xk,BF g0,X8 c,BF hh]
 . rw[X8 g0,X8 c];have f:0<g*g:=by
    rcases JV 0 g with d|d
    . grind[Rat.mul_pos]
    . rcases Rat.le_iff_lt_or_eq.1 d with e|e
      . have:=Rat.mul_pos (a:=-g) (b:=-g) DH DH;grind
      . exact absurd e g0
   have i:(a*g)*(g*h)<0:=by
    have:=Rat.mul_pos (a:=-(a*h)) (b:=g*g) DH f;grind
   by_cases p:a*g<0
   . have:¬g*h<0:=λq=>by
      have:=Rat.mul_pos (a:=-(a*g)) (b:=-(g*h)) DH DH;grind
     grind
   grind[Rat.mul_nonneg,Rat.not_lt]
def Sr(x y:Rat):List (List Rat)->Prop
 |[]=>False
 |[f]=>Stb f x y
 |[_,g]=>Stb g x y
 |f::g::h::l=>(Stb f x y\/Stb g x y)/\(¬Stb g x y->ev f x*ev h x<0/\ev f y*ev h y<0)/\Sr x y (g::h::l)
structure Gd(x y:Rat)(l:List (List Rat)):Prop where
 o:Sr x y l
section
variable {x y:Rat}
variable{l:List (List Rat)}{f g:List Rat}{a:Rat}
def Gd.adj(h:Gd x y (f::g::l)):Stb f x y\/Stb g x y:=by
 match l,h with
 |[],h=>exact Or.inr h.o
 |_::_,h=>exact h.o.1
def Gd.tail(h:Gd x y (f::g::l)):Gd x y (g::l):=by
 match l,h with
 |[],h=>exact⟨h.o⟩
 |_::_,h=>exact⟨h.o.2.2⟩
def Gd.same:∀(n:Nat) (l:List (List Rat)) (f:List Rat),l.length<=n->Gd x y (f::l)->Stb f x y->Xk (ev f x) (JD l x)=Xk (ev f y) (JD l y):=by
 intro n;induction n with
 |zero=>
  intro l f hl _ _
  have:l=[]:=Ak.1 O
  subst this;rfl
 |succ n b=>
  intro l f hl hg c;match l,hl,hg with
  |[],_,_=>rfl
  |g::l,hl,hg=>
   by_cases hs:Stb g x y
   . obtain⟨d,e⟩:=Jy hs;rw[JX,JX,X8 d,X8 e,b l g (by simp at hl;omega) hg.tail hs];have:=NF c hs;by_cases p:ev f x*ev g x<0
     . rw[BF p,BF (this.1 p)]
     . rw[BE p,BE λq=>p (this.2 q)]
   . match l,hl,hg with
     |[],_,hg=>exact absurd hg.o hs
     |h::l,hl,hg=>
      have hh:Stb h x y:=(hg.tail.adj).resolve_left hs;have a:ev f x*ev h x<0/\ev f y*ev h y<0:=hg.o.2.1 hs;rw[JX,JX,JX,JX,Sp a.1,Sp a.2,b l h (by simp at hl;omega) hg.tail.tail hh]
theorem PK(h:a≠0)(l:List Rat):DM (a::l)=Xk a l:=by
 grind[DM,X8]
theorem Iy{b:Rat}(h:b≠0)(l:List Rat):DM (a::b::l)=(if a*b<0 then 1 else 0)+Xk b l:=by
 grind[DM,Xk,PK]
def Gd.stay(h:Gd x y (f::l))(a:Stb f x y):DM (JD (f::l) x)=DM (JD (f::l) y):=by
 obtain⟨b,c⟩:=Jy a;rw[JX,JX,PK b,PK c];exact h.same _ l f (Aa _) a
theorem Gd.both{m:List (List Rat)}(h:Gd x y (f::l))(c:Gd x y (g::m)){k:Rat}(hk:k≠0)(o:∀x,ev f x=k*ev g x)
(n:¬Stb g x y->∀f1 l1 d j,l=f1::l1->m=d::j->0<k*ev f1 x*ev d x/\0<k*ev f1 y*ev d y):
 DM (JD (f::l) x)+DM (JD (g::m) y)=DM (JD (f::l) y)+DM (JD (g::m) x):=by
 have C:0<k*k:=by
  rcases JV 0 k with e|e
  . grind[Rat.mul_pos]
  . rcases Rat.le_iff_lt_or_eq.1 e with c|c
    . have:=Rat.mul_pos (a:=-k) (b:=-k) DH DH;grind
    . exact absurd c hk
 have p:ev f x*ev f y=(k*k)*(ev g x*ev g y):=by rw[o,o];grind
 by_cases hs:Stb g x y
 . have i:Stb f x y:=by unfold Stb at *;rw[p];exact Rat.mul_pos C hs
   have:=h.stay i;have:=c.stay hs;omega
 . have i:¬Stb f x y:=λq=>hs (by
    unfold Stb at *;rw[p]at q;rcases JV (ev g x*ev g y) 0 with r|r
    . have:=Rat.mul_nonneg (a:=k*k) (b:=-(ev g x*ev g y)) DH DH;grind
    . rcases Rat.le_iff_lt_or_eq.1 r with r|r
      . exact r
      . rw[<-r]at q;grind)
   match l,m,h,c,n hs with
   |[],_,h,_,_=>exact absurd h.o i
   |_::_,[],_,c,_=>exact absurd c.o hs
   |f1::l1,d::j,h,c,n=>
    obtain⟨p1,H⟩:=n f1 l1 d j rfl rfl;have u:=(h.adj).resolve_left i;have v:=(c.adj).resolve_left hs;obtain⟨D,E⟩:=Jy u;obtain⟨F,G⟩:=Jy v;rw[JX,JX,JX,JX,JX,JX,JX,JX,Iy D,Iy E,Iy F,Iy G,h.tail.same _ l1 f1 (Aa _) u,c.tail.same _ j d (Aa _) v];have t:∀z,0<k*ev f1 z*ev d z->(ev f z*ev f1 z<0↔ev g z*ev d z<0):=λz B=>by
     have w:ev f z*ev f1 z=ev g z*(k*ev f1 z):=by rw[o];grind
     rw[w];by_cases s:ev g z=0
     . rw[s];grind
     . have A:0<ev g z*ev g z:=by
        rcases JV 0 (ev g z)with e|e
        . grind[Rat.mul_pos]
        . rcases Rat.le_iff_lt_or_eq.1 e with c|c
          . have:=Rat.mul_pos (a:=-(ev g z)) (b:=-(ev g z)) DH DH;grind
          . exact absurd c s
       exact NF A B
    grind
end
end
def Ss:List (List Rat)->Prop
 |[]=>False
 |[f]=>∃c:Rat,c≠0/\∀x,ev f x=c
 |[_,g]=>∃c:Rat,c≠0/\∀x,ev g x=c
 |f::g::h::l=>(∃(q:List Rat) (a c:Rat),0<a/\0<c/\∀x,a*ev f x=ev q x*ev g x-c*ev h x)/\Ss (g::h::l)
structure StC(l:List (List Rat)):Prop where
 o:Ss l
variable{f g p:List Rat}{U V a c e i u v w w2 y2:Rat}
theorem StC.one(h:c≠0)(k:∀x,ev f x=c):StC [f]:=⟨⟨c,h,k⟩⟩
def StC.two(h:c≠0)(k:∀x,ev g x=c):StC [f,g]:=⟨⟨c,h,k⟩⟩
def StC.more{h q:List Rat}{l:List (List Rat)}(b:0<a)(d:0<c)(k:∀x,a*ev f x=ev q x*ev g x-c*ev h x)(n:StC (g::h::l)):StC (f::g::h::l):=⟨⟨⟨q,a,c,b,d,k⟩,n.o⟩⟩
def Hb:(0:Rat)<1/4:=DH
theorem Jm(c x:Rat):ev [c] x=c:=by simp[ev];grind
theorem XJ(g:c≠0)(h:∀x,ev f x=c)(x y:Rat):Stb f x y:=by
 unfold Stb;rw[h,h];rcases JV 0 c with d|d
 . grind[Rat.mul_pos]
 . rcases Rat.le_iff_lt_or_eq.1 d with e|e
   . have:=Rat.mul_pos (a:=-c) (b:=-c) DH DH;grind
   . exact absurd e g
theorem StC.cop:∀ {f g:List Rat} {l:List (List Rat)},StC (f::g::l)->∃u v:List Rat,∀x,ev u x*ev f x+ev v x*ev g x=1
 |_,_,[],⟨⟨c,b,d⟩⟩=>by
  refine⟨[],[1/c],λx=>?_⟩;grind[ev]
 |f,g,h::l,⟨⟨⟨q,a,c,i,b,d⟩,e⟩⟩=>by
  have hn:StC (g::h::l):=⟨e⟩;obtain⟨u,v,k⟩:=StC.cop hn;have j:c≠0:=DH
  refine⟨Ji [-(a/c)] v,XB u (Ji [1/c] (Ji v q)),λx=>?_⟩;grind[Jd,Yc,ev]
theorem KV{f g:Rat}(h:u*f+v*g=1)(b:Wi U u)(a:Wi e f)(c:U*e<=1/4):3/4<=v*g:=by
 have:=(b.mul a).2;grind
theorem StC.gd{B:Rat}(j:0<=B):∀ {l:List (List Rat)},StC l->Sh B λx y=>Gd x y l
 |[_],⟨⟨_,m,k⟩⟩=>Sh.all λx y _ _ _=>⟨XJ m k x y⟩
 |[_,_],⟨⟨_,m,k⟩⟩=>Sh.all λx y _ _ _=>⟨XJ m k x y⟩
 |f::g::h::l,⟨⟨⟨q,a,c,X,m,k⟩,ae⟩⟩=>by
  have hn:StC (g::h::l):=⟨ae⟩;have p:=StC.gd j hn;obtain⟨u,v,ah⟩:=(StC.more X m k hn).cop;obtain⟨u2,w,ai⟩:=hn.cop;obtain⟨U1,p1,R⟩:=XR u j;obtain⟨U2,p2,S⟩:=XR v j;obtain⟨T,p3,U⟩:=XR u2 j;obtain⟨i,t,V⟩:=XR w j;obtain⟨Q,M,P⟩:=XR q j;have d:∀ {r K:Rat},0<r->0<K->K*(r/K)=r:=λ_ hK=>by grind
  have E:=(((Xj f j (Yl Hb p1)).and (Xj g j (Yl Hb p2))).and ((Xj g j (Yl Hb p3)).and (Xj g j (Yl (Yl (show(0:Rat)<c/2 by grind) t) M)))).and p;refine E.mono λx y L hy aj ⟨⟨⟨tf,tg⟩,an,ap⟩,p⟩=>?_;refine⟨⟨?_,λhn=>?_,p.o⟩⟩
  . by_cases N:Stb f x y
    . exact Or.inl N
    . by_cases sg:Stb g x y
      . exact Or.inr sg
      . exfalso
        have C:=KV (ah x) (R x L) (tf N).1 DH;have n:=((S x L).mul (tg sg).1).2;grind
  . have am:∀z,Wi B z->Wi (1/4/T) (ev g z)->Wi (c/2/i/Q) (ev g z)->ev f z*ev h z<0:=λz o w1 w2=>by
     have C:=KV (ai z) (U z o) w1 DH;have n:=(P z o).mul w2;rw[d (Yl (show(0:Rat)<c/2 by grind) t) M]at n;have D:=k z;have F:=V z o;have G:Wi (c/2) (i*(ev q z*ev g z)):=by
      have:=(show Wi i i from⟨DH,DH⟩).mul n;rwa[d (show(0:Rat)<c/2 by grind) t]at this
     have A:ev h z≠0:=λe=>by rw[e]at C;grind
     rcases JV 0 (ev h z)with s|s
     . have s:0<ev h z:=by
        rcases Rat.le_iff_lt_or_eq.1 s with s|s
        . exact s
        . exact absurd s.symm A
       have W:3/4<=i*ev h z:=by
        have:=Rat.mul_nonneg (a:=i-ev w z) (b:=ev h z) (by have:=F.2;grind) DH;grind
       have H:i*(a*ev f z)<0:=by
        rw[D];have:=Rat.mul_nonneg (a:=c) (b:=i*ev h z-3/4) DH DH;have:=G.2;grind
       have I:ev f z<0:=by
        rcases JV 0 (ev f z)with r|r
        . have:=Rat.mul_nonneg (a:=i*a) (b:=ev f z) (Rat.mul_nonneg DH DH) r;grind
        . rcases Rat.le_iff_lt_or_eq.1 r with r|r
          . exact r
          . rw[r]at H;grind
       have:=Rat.mul_pos (a:=-ev f z) (b:=ev h z) DH s;grind
     . have s:ev h z<0:=by
        rcases Rat.le_iff_lt_or_eq.1 s with s|s
        . exact s
        . exact absurd s A
       have W:i*ev h z<=-(3/4):=by
        have:=Rat.mul_nonneg (a:=i+ev w z) (b:=-ev h z) (by have:=F.1;grind) DH;grind
       have H:0<i*(a*ev f z):=by
        rw[D];have:=Rat.mul_nonneg (a:=c) (b:=-(i*ev h z)-3/4) DH DH;have:=G.1;grind
       have I:0<ev f z:=by
        rcases JV (ev f z) 0 with r|r
        . have:=Rat.mul_nonneg (a:=i*a) (b:=-ev f z) (Rat.mul_nonneg DH DH) DH;grind
        . grind
       have:=Rat.mul_pos (a:=ev f z) (b:=-ev h z) I DH;grind
    grind
theorem steps{d:Rat}(i:0<d)(a b:Rat):∃n:Nat,b-a<=(n:Rat)*d:=by
 obtain⟨q,hq⟩:=ex ((b-a)/d);refine⟨q.ceil.toNat,?_⟩;have e:b-a=q*d:=by rw[<-hq,Aj DH]
 rw[e];have g:q<=(q.ceil.toNat:Rat):=by
  have c:q<=(q.ceil:Rat):=Rat.le_ceil;have f:(q.ceil:Rat)<=((q.ceil.toNat:Int):Rat):=Rat.intCast_le_intCast.2 (Int.self_le_toNat _);exact Rat.le_trans c f
 have:=Rat.mul_nonneg (a:=(q.ceil.toNat:Rat)-q) (b:=d) DH DH;grind
theorem glue{B:Rat}{F G:Rat->Nat}(h:Sh B λx y=>F x+G y=F y+G x){b:Rat}(c:Wi B a)(i:Wi B b)(e:a<=b):F a+G b=F b+G a:=by
 obtain⟨d,d0,h⟩:=h;obtain⟨n,hn⟩:=steps d0 a b
 have:∀(n:Nat) (a:Rat),Wi B a->a<=b->b-a<=(n:Rat)*d->F a+G b=F b+G a:=by
  intro n;induction n with
  |zero=>
   intro a c e f;grind
  |succ n l=>
   intro a c e f;have j:((n+1:Nat):Rat)=(n:Rat)+1:=by rw[Rat.natCast_add];rfl
   rw[j]at f;rcases JV (b-a) d with g|g
   . exact h a b c i e g
   . have k:Wi B (a+d):=⟨by have:=c.1;grind,by have:=i.2;grind⟩;grind
 exact this n a c e hn
theorem Xl(a:Rat):0<=a*a:=by
 rcases JV 0 a with h|h
 . exact Rat.mul_nonneg h h
 . have:=Rat.mul_nonneg (a:=-a) (b:=-a) DH DH;grind
theorem Ls(h:Wi V v):v*v<=V*V:=by
 have:=Rat.mul_nonneg (a:=V-v) (b:=V+v) (by have:=h.2;grind) (by have:=h.1;grind);grind
theorem cT{y d c:Rat}(k:Wi U u)(hv:Wi V v)(m:Wi i y)(f:Wi e a)(j:Wi d w2)(n:Wi c y2)(z:u*w+v*y=1)(l:w=a*w2)
(o:U*(e*d)<=1/4)(p:(V*V)*(e*(i*c))<=1/16):1/2<=(V*V)*(y*(y-a*y2)):=by
 have g:=(k.mul (f.mul j)).2;rw[<-l]at g;have q:3/4<=v*y:=DH
 have r:=Rat.mul_nonneg (a:=V*V-v*v) (b:=y*y) (by have:=Ls hv;grind) (Xl y);have s:=Rat.mul_nonneg (a:=v*y-3/4) (b:=v*y+3/4) DH DH;have t:=(f.mul (m.mul n)).2;have x:=Rat.mul_nonneg (a:=V*V) (b:=e*(i*c)-a*(y*y2)) (Xl V) DH;grind
theorem cU{y c A A1 d f n:Rat}(D:Wi U u)(hv:Wi V v)(o:Wi A a)(B:Wi A1 i)(m:Wi e w2)(g:Wi d c)(p:Wi f y2)(X:u*w+v*y=1)(E:w=a*w2)
(k:y=i*w2+a*(c+y2))(hn:0<n)(hp:n<=y2*c)(F:U*(A*e)<=1/4)(G:V*(A1*e)<=1/4)
(s:((V*(d+f))*(V*(d+f)))*((A1*e)*(A*(d+d+f)))<=n/8):n/8<=((V*(d+f))*(V*(d+f)))*(y*(i*w2+a*c)):=by
 obtain⟨M,hM⟩:=ex (V*(d+f));have j:=hv.mul (g.add p);rw[hM]at j s ⊢;have x:=(D.mul (o.mul m)).2;rw[<-E]at x;obtain⟨t,C⟩:=ex (i*w2);have l:=B.mul m;rw[C]at l k ⊢;have P:=(hv.mul l).2;have z:v*y=v*t+a*(v*(c+y2)):=by rw[k];grind
 obtain⟨q,hq⟩:=ex (v*(c+y2));rw[hq]at z j;have Q:1/2<=a*q:=DH
 have R:=Rat.mul_nonneg (a:=a*a) (b:=M*M-q*q) (Xl a) (by have:=Ls j;grind);have S:=Rat.mul_nonneg (a:=a*q-1/2) (b:=a*q+1/2) DH DH;have T:1/4<=(a*a)*(M*M):=DH
 have W:=Rat.mul_nonneg (a:=(a*a)*(M*M)-1/4) (b:=n) DH DH;have H:=Rat.mul_nonneg (a:=(a*a)*(M*M)) (b:=y2*c-n) DH DH;have I:=Rat.mul_nonneg (a:=(a*a)*(M*M)) (b:=c*c) DH (Xl c);have K:=Rat.mul_nonneg (a:=M*M) (b:=t*t) (Xl M) (Xl t);have L:=(l.mul (o.mul ((g.add g).add p))).1;have N:=Rat.mul_nonneg (a:=M*M) (b:=t*(a*(c+c+y2))+(A1*e)*(A*(d+d+f))) (Xl M) DH;have r:y*(t+a*c)=t*t+t*(a*(c+c+y2))+(a*a)*(c*c)+(a*a)*(y2*c):=by rw[k];grind
 rw[r];grind
theorem small{K r:Rat}(d:0<=K)(c:0<r):∃e,0<e/\∀f,f<=e->K*f<=r:=by
 refine⟨r/(K+1),Yl c DH,λf k=>?_⟩;have g:r/(K+1)*(K+1)=r:=Aj DH;have i:=Rat.mul_nonneg (a:=K) (b:=r/(K+1)-f) d DH;have j:=Yl c (show(0:Rat)<K+1 by grind);grind
theorem Su{s:Rat}(hs:s*s=1):∀(p:List Rat),Jc p=p->p≠[]->∃B e:Rat,0<B/\0<e/\∀x,B<=x->e<=s^(p.length-1)*cf p (p.length-1)*ev p (s*x):=by
 intro p;induction p with
 |nil=>intro _ h;exact absurd rfl h
 |cons c t l=>
  intro tp p0;by_cases d:t=[]
  . subst d;have c0:c≠0:=by
     have:=Jt tp p0;simpa[cf]using this
    refine⟨1,c*c,DK,?_,λx _=>?_⟩
    . have:=XJ (f:=[c]) c0 (λx=>Jm c x) 0 0;unfold Stb at this;rwa[Jm]at this
    . rw[Jm];simp[cf]
  . have m:Jc t=t:=by
     refine XA (Or.inr ?_);have:=Jt tp p0;have hl:=Ae.2 d;rw[Ah,show t.length+1-1=(t.length-1)+1 by omega,Yq]at this;exact this
    obtain⟨B,e,y,g,h⟩:=l m d;have hl:=Ae.2 d;obtain⟨n,hn⟩:∃n,t.length=n+1:=⟨t.length-1,O⟩;have hk:cf (c::t) ((c::t).length-1)=cf t n:=by
     rw[Ah,hn,show n+1+1-1=n+1 by omega,Yq]
    rw[hk,Ah,hn,show n+1+1-1=n+1 by omega];rw[hn,show n+1-1=n by omega]at h;generalize cf t n=k at *;obtain⟨D,hD,j⟩:=JN (s^(n+1)*k*c);refine⟨B+(D+e)/e,e,?_,g,λx z=>?_⟩
    . have:=Yl (a:=D+e) (b:=e) DH g;grind
    . have o:=Yl (a:=D+e) (b:=e) DH g;have q:=h x DH;have r:(D+e)/e*e=D+e:=Aj DH;rw[Hz];have i:s^(n+1)*k*(c+s*x*ev t (s*x))=s^(n+1)*k*c+x*(s^n*k*ev t (s*x)):=by
       rw[Rat.pow_succ];grind
      rw[i];have u:=Rat.mul_nonneg (a:=x) (b:=s^n*k*ev t (s*x)-e) DH DH;have v:=Rat.mul_nonneg (a:=x-(D+e)/e) (b:=e) DH DH;have w:=j.1;grind
theorem Sv(tp:Jc p=p)(p0:p≠[]):∃B,0<B/\∀x,B<=x->0<cf p (p.length-1)*ev p x:=by
 obtain⟨B,e,a,f,b⟩:=Su (s:=1) DH p tp p0;refine⟨B,a,λx c=>?_⟩;have g:=b x c;have d:∀n:Nat,(1:Rat)^n=1:=λn=>by
  induction n with
  |zero=>rfl
  |succ n i=>grind
 grind
theorem Sw(tp:Jc p=p)(p0:p≠[]):∃B,0<B/\∀x,x<=-B->0<(-1)^(p.length-1)*cf p (p.length-1)*ev p x:=by
 obtain⟨B,e,a,d,b⟩:=Su (s:=-1) DH p tp p0;refine⟨B,a,λx f=>?_⟩;have c:=b (-x) DH;rw[show(-1:Rat)*-x=x by grind]at c;grind
theorem Sx:∀(l m:List Rat) (a b:Rat),l.length=m.length->(∀i (k:i<l.length) (e:i<m.length),0<l[i]*m[i])->(0<a*b\/(a=0/\b=0))->Xk a l=Xk b m:=by
 intro l;induction l with
 |nil=>intro m a b h _ _;cases m with|nil=>rfl|cons=>simp at h
 |cons c l n=>
  intro m a b h e f;cases m with
  |nil=>simp at h
  |cons d m=>
   have g:0<c*d:=e 0 DI DI;obtain⟨o,p⟩:=Jy g;have j:=n m c d (by simpa using h) (λi k q=>e (i+1) si si) (Or.inl g);rw[X8 o,X8 p,j];rcases f with f|⟨rfl,rfl⟩
   . grind[NF]
   grind

