import Derived.Test.YtdmmbgahnkbnaaaGreatDoorU00
set_option linter.all false
set_option maxRecDepth 99999
set_option maxHeartbeats 0
namespace Go.Proofs.YtdmmbgahnkbnaaaGreatDoor
section
def BH:type_of% @if_pos:=@if_pos
def BG:type_of% @if_neg:=@if_neg
def cf(p:List Rat)(i:Nat):Rat:=p[i]?.getD 0
variable{p q:List Rat}{i k n:Nat}{K L u v:Rat}
theorem Xw(i:Nat):cf [] i=0:=by simp[cf]
theorem Y9(c:Rat)(t:List Rat):cf (c::t) 0=c:=by simp[cf]
theorem Yl(c:Rat)(t:List Rat)(i:Nat):cf (c::t) (i+1)=cf t i:=by simp[cf]
theorem Ym(h:p.length<=i):cf p i=0:=by simp[cf,List.getElem?_eq_none h]
def aY(h:i<p.length):cf p i=p[i]:=by simp[cf,List.getElem?_eq_getElem h]
theorem GU(p:List Rat)(k:Nat)(c:Rat)(i:Nat)(hk:k<p.length):cf (p.set k c) i=if i=k then c else cf p i:=by
 grind[cf]
theorem J7(n:Nat)(i:Nat):cf (List.replicate n 0) i=0:=by
 grind[cf]
theorem Ol(n:Nat)(f:Nat->Rat)(i:Nat):cf ((List.range n).map f) i=if i<n then f i else 0:=by
 grind[cf]
theorem Om(p:List Rat)(n i:Nat):cf (p.take n) i=if i<n then cf p i else 0:=by
 grind[cf]
def Jc:List Rat->List Rat
 |[]=>[]
 |c::t=>match Jc t with
  |[]=>if c=0 then []else [c]
  |d::s=>c::d::s
theorem Yp(p:List Rat)(i:Nat):cf (Jc p) i=cf p i:=by
 induction p generalizing i with
 |nil=>rfl
 |cons c t b=>
  have a:=b;rw[Jc];split
  . rename_i h;rw[h]at a;cases i with
    |zero=>split<;>simp_all [cf]
    |succ i=>
     grind[Yl,Xw]
  . rename_i d s h;rw[<-h];cases i with
    |zero=>rfl
    |succ i=>rw[Yl,Yl,a]
theorem On(h:∀i,cf p i=0):Jc p=[]:=by
 induction p with
 |nil=>rfl
 |cons c t a=>
  have b:=a (λi=>by rw[<-Yl c t i];exact h (i+1));grind[Y9,Jc]
theorem Il(h:∀i,cf p i=cf q i):Jc p=Jc q:=by
 induction p generalizing q with
 |nil=>grind[On,Xw]
 |cons c t e=>
  cases q with
  |nil=>grind[On,Xw]
  |cons d s=>
   have a:c=d:=by have:=h 0;rwa[Y9,Y9]at this
   have b:=e (q:=s) (λi=>by have:=h (i+1);rwa[Yl,Yl]at this);rw[Jc,Jc,a,b]
def Yi(p:List Rat):Jc (Jc p)=Jc p:=Il (Yp p)
theorem Yq(p:List Rat):(Jc p).length<=p.length:=by
 induction p with
 |nil=>exact Aa _
 |cons c t a=>
  grind[Jc]
theorem Jq(h:Jc p=p)(a:p≠[]):cf p (p.length-1)≠0:=by
 induction p with
 |nil=>exact absurd rfl a
 |cons c t b=>
  grind[Jc,cf]
theorem Mt(h:p=[]\/cf p (p.length-1)≠0):Jc p=p:=by
 induction p with
 |nil=>rfl
 |cons c t a=>
  grind[Jc,cf]
theorem aZ(hn:n<=p.length)(a:n=0\/cf p (n-1)≠0)(b:∀j,n<=j->cf p j=0):Jc p=p.take n:=by
 have e:Jc p=Jc (p.take n):=Il λi=>by
  grind[Om]
 grind[Mt,Om]
theorem Oo(h:∀j,n<=j->cf p j=0):(Jc p).length<=n:=by
 rcases A6 n (Jc p).length with a|a
 . have b:=Jq (Yi p) DG;grind[Yp]
 . exact a
def ev:List Rat->Rat->Rat
 |[],_=>0
 |c::t,x=>c+x*ev t x
theorem LX(h:∀i,cf p i=0)(x:Rat):ev p x=0:=by
 induction p with
 |nil=>rfl
 |cons c t a=>
  have b:=a (λi=>by rw[<-Yl c t i];exact h (i+1));grind[Y9,ev]
theorem LY(h:∀i,cf p i=cf q i)(x:Rat):ev p x=ev q x:=by
 induction p generalizing q with
 |nil=>grind[LX,Xw]
 |cons c t e=>
  cases q with
  |nil=>grind[LX,Xw]
  |cons d s=>
   have a:c=d:=by have:=h 0;rwa[Y9,Y9]at this
   have b:=e (q:=s) (λi=>by have:=h (i+1);rwa[Yl,Yl]at this);rw[ev,ev,a,b]
theorem Gz(p:List Rat)(x:Rat):ev (Jc p) x=ev p x:=LY (Yp p) x
def dv:List Rat->Rat->Rat
 |[],_=>0
 |_::t,x=>ev t x+x*dv t x
theorem R6(h:∀i,cf p i=0)(x:Rat):dv p x=0:=by
 induction p with
 |nil=>rfl
 |cons c t b=>
  have a:∀i,cf t i=0:=λi=>by rw[<-Yl c t i];exact h (i+1)
  rw[dv,b a,LX a];grind
theorem R7(h:∀i,cf p i=cf q i)(x:Rat):dv p x=dv q x:=by
 induction p generalizing q with
 |nil=>grind[R6,Xw]
 |cons c t b=>
  cases q with
  |nil=>grind[R6,Xw]
  |cons d s=>
   have a:∀i,cf t i=cf s i:=λi=>by have:=h (i+1);rwa[Yl,Yl]at this
   rw[dv,dv,b a,LY a]
def IF:List Rat->Rat->List Rat
 |[],_=>[]
 |_::t,a=>match t with
  |[]=>[]
  |d::s=>ev (d::s) a::IF (d::s) a
def ag(p:List Rat)(a:Rat):(IF p a).length=p.length-1:=by
 induction p with
 |nil=>rfl
 |cons c t b=>
  cases t with
  |nil=>rfl
  |cons d s=>
   rw[IF,Ai,b];simp
theorem Oq(p:List Rat)(a x:Rat):ev p x=ev p a+(x-a)*ev (IF p a) x:=by
 induction p with
 |nil=>simp[ev,IF];grind
 |cons c t b=>
  cases t with
  |nil=>simp[ev,IF];grind
  |cons d s=>
   grind[IF,ev]
theorem bA{m:Nat}(h:∀n:Nat,m<=n->ev p (n:Rat)=0)(x:Rat):ev p x=0:=by
 obtain⟨k,hk⟩:=ex (p.length);induction k generalizing p m with
 |zero=>
  have:p=[]:=AG hk
  rw[this];rfl
 |succ k d=>
  have a:=h m (Aa _);have b:∀n:Nat,m+1<=n->ev (IF p m) (n:Rat)=0:=λn hn=>by
   grind[Oq,Rat.natCast_inj]
  have c:=d b (by rw[ag,hk];rfl);rw[Oq p (m:Rat) x,a,c];grind
theorem bB(h:∀x,ev p x=0)(i:Nat):cf p i=0:=by
 induction p generalizing i with
 |nil=>rfl
 |cons c t g=>
  have a:c=0:=by have:=h 0;rw[ev]at this;grind
  have b:∀x,ev t x=0:=λx=>bA (m:=1) (λn hn=>by
   have d:=h (n:Rat);rw[ev,a]at d;have j:(n:Rat)≠0:=λe=>by
    have f:(n:Rat)=((0:Nat):Rat):=e;have:=Rat.natCast_inj.1 f;omega
   grind) x
  cases i with
  |zero=>rw[Y9];exact a
  |succ i=>rw[Yl];exact g b i
def D5:List Rat->List Rat->List Rat
 |[],q=>q
 |p,[]=>p
 |c::t,d::s=>(c+d)::D5 t s
def XG(a:Rat)(p:List Rat):List Rat:=p.map λc=>c*a
def Ej:List Rat->List Rat->List Rat
 |[],_=>[]
 |c::t,q=>D5 (XG c q) (0::Ej t q)
theorem Im(p q:List Rat)(i:Nat):cf (D5 p q) i=cf p i+cf q i:=by
 induction p generalizing q i with
 |nil=>rw[D5,Xw];grind
 |cons c t a=>
  cases q with
  |nil=>
   grind[D5,Xw]
  |cons d s=>
   rw[D5];cases i with
   |zero=>simp[cf]
   |succ i=>rw[Yl,Yl,Yl,a]
theorem Kx(a:Rat)(p:List Rat)(i:Nat):cf (XG a p) i=cf p i*a:=by
 grind[cf,XG]
theorem Hp(p q:List Rat)(x:Rat):ev (D5 p q) x=ev p x+ev q x:=by
 induction p generalizing q with
 |nil=>rw[D5,ev];grind
 |cons c t a=>
  cases q with
  |nil=>
   grind[D5,ev]
  |cons d s=>rw[D5,ev,ev,ev,a];grind
theorem Io(a:Rat)(p:List Rat)(x:Rat):ev (XG a p) x=ev p x*a:=by
 induction p with
 |nil=>simp[XG,ev]
 |cons c t b=>
  grind[XG,ev]
theorem Ot(p q:List Rat)(x:Rat):ev (Ej p q) x=ev p x*ev q x:=by
 induction p with
 |nil=>rw[Ej,ev];grind
 |cons c t a=>rw[Ej,Hp,Io,ev,ev,a];grind
theorem bC(p q:List Rat)(x:Rat):dv (D5 p q) x=dv p x+dv q x:=by
 induction p generalizing q with
 |nil=>rw[D5,dv];grind
 |cons c t a=>
  cases q with
  |nil=>
   grind[D5,dv]
  |cons d s=>rw[D5,dv,dv,dv,a,Hp];grind
theorem R8(a:Rat)(p:List Rat)(x:Rat):dv (XG a p) x=dv p x*a:=by
 induction p with
 |nil=>simp[XG,dv]
 |cons c t b=>
  grind[XG,dv,Io]
theorem bD(p q:List Rat)(x:Rat):dv (Ej p q) x=dv p x*ev q x+ev p x*dv q x:=by
 induction p with
 |nil=>rw[Ej,dv,ev];grind
 |cons c t a=>grind[Ej,bC,R8,dv,ev,Ot]
theorem Ou(h:∀x,ev p x=ev q x):Jc p=Jc q:=by
 have a:∀i,cf (D5 p (XG (-1) q)) i=0:=bB (λx=>by rw[Hp,Io,h x];grind);refine Il λi=>?_;have:=a i;rw[Im,Kx]at this;grind
def Dr:Nat->(Nat->Rat)->Rat
 |0,_=>0
 |n+1,f=>Dr n f+f n
theorem Ov{f:Nat->Rat}(h:∀k,k<n->f k=0):Dr n f=0:=by
 induction n with
 |zero=>rfl
 |succ n a=>grind[Dr]
theorem bE(n:Nat)(f:Nat->Rat):Dr (n+1) f=f 0+Dr n (λk=>f (k+1)):=by
 induction n with
 |zero=>simp[Dr];grind
 |succ n a=>rw[Dr,a,Dr];grind
def conv(p q:List Rat)(n k:Nat):Rat:=Dr n λi=>if i<=k then cf p i*cf q (k-i)else 0
theorem Ky(p q:List Rat)(k:Nat):cf (Ej p q) k=conv p q p.length k:=by
 induction p generalizing k with
 |nil=>rfl
 |cons c t a=>
  rw[Ej,Im,Kx,conv,Ai,bE];rw[BH (At _),Y9,Fl];have e:cf (0::Ej t q) k=Dr t.length (λi=>if i+1<=k then cf (c::t) (i+1)*cf q (k-(i+1))else 0):=by
   cases k with
   |zero=>
    grind[Y9,Ov]
   |succ k=>
    grind[Yl,conv]
  rw[e];grind
theorem bF(p q:List Rat)(h:p.length<=n):conv p q n k=conv p q p.length k:=by
 induction n with
 |zero=>grind
 |succ n b=>
  by_cases a:p.length=n+1
  . rw[a]
  . rw[<-b O];show conv p q n k+_=_
    grind[Ym]
theorem bG(h:p.length+q.length<=k+1):cf (Ej p q) k=0:=by
 rw[Ky];refine Ov λi hi=>?_;grind[Ym]
theorem Ow(p q:List Rat)(m n:Nat)(hp:p.length=m+1)(hq:q.length=n+1):cf (Ej p q) (m+n)=cf p m*cf q n:=by
 grind[Ky,conv,Dr,Ov,Ym]
theorem R9(hp:Jc p=p)(hq:Jc q=q)(d:p≠[])(e:q≠[]):(Jc (Ej p q)).length=p.length+q.length-1:=by
 have f:=Jq hp d;have g:=Jq hq e;have l1:0<p.length:=Ae.2 d;have l2:0<q.length:=Ae.2 e;have i:=Ow p q (p.length-1) (q.length-1) O O;have b:cf (Ej p q) (p.length-1+(q.length-1))≠0:=by
  rw[i];intro c;rcases AN.1 c with a|a
  . exact f a
  . exact g a
 have c:(Jc (Ej p q)).length<=p.length+q.length-1:=Oo λj k=>bG O;rcases A6 (Jc (Ej p q)).length (p.length+q.length-1)with a|a
 . rw[<-Yp]at b;exact absurd (Ym O) b
 . omega
def IG(p:List Rat):List Rat:=(List.range (p.length-1)).map λi=>cf p (i+1)*((i+1:Nat):Rat)
theorem Kz(p:List Rat)(i:Nat):cf (IG p) i=cf p (i+1)*((i+1:Nat):Rat):=by
 grind[IG,Ol,Ym]
theorem bH(p:List Rat)(x:Rat):ev (IG p) x=dv p x:=by
 induction p with
 |nil=>rfl
 |cons c t a=>
  have e:∀i,cf (IG (c::t)) i=cf (D5 t (0::IG t)) i:=λi=>by
   rw[Kz,Im,Yl];cases i with
   |zero=>rw[Y9];grind
   |succ i=>rw[Yl,Kz];grind
  rw[LY e,Hp,ev,a,dv];grind
def bI(p:List Rat):D5 p []=p:=by cases p<;>rfl
theorem bJ{u v b a:List Rat}(hq:Jc q=q)(p:q≠[])(r:Jc u=u)(s:Jc b=b)(hv:Jc v=v)(t:Jc a=a)(w:v.length<q.length)(y:a.length<q.length)
(h:∀x,ev q x*ev u x+ev v x=ev q x*ev b x+ev a x):u=b/\v=a:=by
 obtain⟨d,c⟩:=ex (Jc (D5 u (XG (-1) b)));have l:Jc d=d:=by rw[<-c,Yi]
 have m:∀x,ev d x=ev u x-ev b x:=λx=>by rw[<-c,Gz,Hp,Io];grind
 have e:∀x,ev (Ej d q) x=ev (D5 a (XG (-1) v)) x:=λx=>by
  grind[Ot,Hp,Io]
 have g:=Ou e;have i:(Jc (D5 a (XG (-1) v))).length<q.length:=by
  refine Cx (Oo (n:=q.length-1) λj o=>?_) O;rw[Im,Kx,Ym O,Ym O];grind
 have k:d=[]:=by
  by_cases f:d=[]
  . exact f
  . grind[R9,Ae]
 grind[ev,Ou]
def Gi(i:Nat)(q:List Rat):List Rat:=List.replicate i 0++q
theorem Mu(i:Nat)(q:List Rat)(k:Nat):cf (Gi i q) k=if i<=k then cf q (k-i)else 0:=by
 grind[cf,Gi]
theorem SA(i:Nat)(q:List Rat)(x:Rat):ev (Gi i q) x=x^i*ev q x:=by
 induction i with
 |zero=>rw[show Gi 0 q=q from rfl];grind
 |succ i a=>
  grind[Gi,ev]
def Xa(z:List Rat)(i:Nat)(a:Rat)(q:List Rat):Nat->List Rat
 |0=>z
 |j+1=>(Xa z i a q j).set (i+j) (cf (Xa z i a q j) (i+j)+a*cf q j)
theorem LZ(z:List Rat)(i:Nat)(a:Rat)(q:List Rat)(j:Nat):(Xa z i a q j).length=z.length:=by
 induction j with
 |zero=>rfl
 |succ j b=>rw[Xa,Fc,b]
theorem bK(z:List Rat)(i:Nat)(a:Rat)(q:List Rat)(j k:Nat)(h:i+j<=z.length):cf (Xa z i a q j) k=cf z k+(if i<=k/\k<i+j then a*cf q (k-i)else 0):=by
 induction j with
 |zero=>rw[Xa,BG O];grind
 |succ j b=>
  grind[Xa,GU,LZ]
theorem Ox(z:List Rat)(i:Nat)(a:Rat)(q:List Rat)(k:Nat)(h:i+q.length<=z.length):cf (Xa z i a q q.length) k=cf z k+a*cf (Gi i q) k:=by
 grind[bK,Mu,Ym]
theorem bL(z:List Rat)(i:Nat)(a:Rat)(q:List Rat)(x:Rat)(h:i+q.length<=z.length):ev (Xa z i a q q.length) x=ev z x+a*(x^i*ev q x):=by
 have e:∀k,cf (Xa z i a q q.length) k=cf (D5 z (XG a (Gi i q))) k:=λk=>by
  grind[Ox,Im,Kx]
 rw[LY e,Hp,Io,SA];grind
def Es(p q:List Rat)(n:Nat):Nat->List Rat
 |0=>List.replicate n 0
 |i+1=>Xa (Es p q n i) i (cf p i) q q.length
def Oy(p q:List Rat)(n i:Nat):(Es p q n i).length=n:=by
 induction i with
 |zero=>rw[Es,AJ]
 |succ i a=>rw[Es,LZ,a]
theorem SB(p q:List Rat)(n i k:Nat)(h:i=0\/i+q.length<=n+1):cf (Es p q n i) k=conv p q i k:=by
 induction i with
 |zero=>rw[Es,J7];rfl
 |succ i a=>
  rw[Es,Ox _ _ _ _ _ (by rw[Oy];omega),a O,Mu];show _=conv p q i k+_
  grind
def JM(p q:List Rat)(n m:Nat):Nat->List Rat × List Rat
 |0=>(List.replicate m 0,p)
 |k+1=>
  let s:=JM p q n m k
  let i:=m-(k+1)
  let c:=cf s.2 (i+n)/cf q n
  (s.1.set i c,Xa s.2 i (-c) q q.length)
theorem Xr(p q:List Rat)(n m k:Nat):(JM p q n m k).1.length=m/\(JM p q n m k).2.length=p.length:=by
 induction k with
 |zero=>exact⟨AJ,rfl⟩
 |succ k a=>grind[JM,LZ]
theorem bM(p:List Rat)(i:Nat)(c:Rat)(x:Rat)(hi:i<p.length)(a:cf p i=0):ev (p.set i c) x=ev p x+c*x^i:=by
 have e:∀k,cf (p.set i c) k=cf (D5 p (Gi i [c])) k:=λk=>by
  grind[GU,Im,Mu,Y9,Ym]
 rw[LY e,Hp,SA];simp[ev];grind
theorem SC(p q:List Rat)(n m:Nat)(hq:q.length=n+1)(hl:cf q n≠0)(e:m+n=p.length):∀k,k<=m->
 (∀x,ev p x=ev q x*ev (JM p q n m k).1 x+ev (JM p q n m k).2 x)/\(∀j,j<m-k->cf (JM p q n m k).1 j=0)/\(∀j,m-k+n<=j->cf (JM p q n m k).2 j=0):=by
 intro k;induction k with
 |zero=>
  intro _;grind[J7,Ym,JM,LX]
 |succ k a=>
  intro hk;obtain⟨b,c,d⟩:=a O;obtain⟨l1,l2⟩:=Xr p q n m k;rw[JM];grind[bM,bL,GU,Ox,Mu,Ym]
def Jm(p q:List Rat):List Rat:=Jc (JM p q (q.length-1) (p.length-(q.length-1)) (p.length-(q.length-1))).1
def JU(p q:List Rat):List Rat:=Jc (JM p q (q.length-1) (p.length-(q.length-1)) (p.length-(q.length-1))).2
theorem YX(p q:List Rat)(hq:Jc q=q)(a:q≠[]):(∀x,ev p x=ev q x*ev (Jm p q) x+ev (JU p q) x)/\(JU p q).length<q.length/\Jc (Jm p q)=Jm p q/\Jc (JU p q)=JU p q:=by
 have l1:0<q.length:=Ae.2 a;refine⟨λx=>?_,?_,Yi _,Yi _⟩
 . unfold Jm JU;rw[Gz,Gz];by_cases h:q.length-1<=p.length
   . exact(SC p q (q.length-1) (p.length-(q.length-1)) O (Jq hq a) O _ (Aa _)).1 x
   . rw[show p.length-(q.length-1)=0 from by omega,JM];grind[LX,J7]
 . unfold JU;refine Cx (Oo (n:=q.length-1) λj b=>?_) O;by_cases h:q.length-1<=p.length
   . exact(SC p q (q.length-1) (p.length-(q.length-1)) O (Jq hq a) O _ (Aa _)).2.2 j O
   . rw[show p.length-(q.length-1)=0 from by omega,JM];exact Ym (by dsimp only;omega)
def X2(p q:List Rat):List Rat:=Jc (D5 p q)
def JS(p q:List Rat):List Rat:=Jc (D5 p (XG (-1) q))
def Jj(p q:List Rat):List Rat:=Jc (Ej p q)
def Jb(p:List Rat):List Rat:=Jc (IG p)
def K0(p q:List Rat):Jc (X2 p q)=X2 p q:=Yi _
theorem Yy(p q:List Rat):Jc (JS p q)=JS p q:=Yi _
def JA(p q:List Rat):Jc (Jj p q)=Jj p q:=Yi _
theorem Jr(p:List Rat):Jc (Jb p)=Jb p:=Yi _
theorem YQ(p q:List Rat)(x:Rat):ev (X2 p q) x=ev p x+ev q x:=by unfold X2;rw[Gz,Hp]
theorem XK(p q:List Rat)(x:Rat):ev (JS p q) x=ev p x-ev q x:=by grind[JS,Gz,Hp,Io]
theorem Je(p q:List Rat)(x:Rat):ev (Jj p q) x=ev p x*ev q x:=by unfold Jj;rw[Gz,Ot]
def Ip(p:List Rat)(x:Rat):ev (Jb p) x=dv p x:=by unfold Jb;rw[Gz,bH]
def bN(p q:List Rat)(i:Nat):cf (X2 p q) i=cf p i+cf q i:=by unfold X2;rw[Yp,Im]
theorem Oz(p q:List Rat)(i:Nat):cf (JS p q) i=cf p i-cf q i:=by grind[JS,Yp,Im,Kx]
theorem bO(p q:List Rat):(D5 p q).length=max p.length q.length:=by
 induction p generalizing q with
 |nil=>rw[D5];simp
 |cons c t a=>
  cases q with
  |nil=>rw[bI];simp
  |cons d s=>grind[D5]
def bP(p q:List Rat):(X2 p q).length<=max p.length q.length:=by
 have:=Yq (D5 p q);rw[bO]at this;exact this
def Xb(hp:Jc p=p)(hq:Jc q=q)(h:∀x,ev p x=ev q x):p=q:=by rw[<-hp,<-hq];exact Ou h
theorem bQ(p q:List Rat):Jb (Jj p q)=X2 (Jj (Jb p) q) (Jj p (Jb q)):=by
 refine Xb (Jr _) (K0 _ _) λx=>?_;rw[Ip,YQ,Je,Je,Ip,Ip,<-bD];grind[R7,Jj,Yp]
def JX(a b:Rat):a<=b\/b<=a:=Rat.le_total
theorem Yf{a b:Rat}(c:0<a)(d:0<b):0<a/b:=by
 have e:a/b*b=a:=Aj DG;rcases JX (a/b) 0 with h|h
 . have:=Rat.mul_nonneg (a:=-(a/b)) (b:=b) DG DG;grind
 . rcases Rat.le_iff_lt_or_eq.1 h with h|h
   . exact h
   grind
theorem bR{U V:Rat}(a:-U<=u)(b:u<=U)(c:-V<=v)(d:v<=V):-(U*V)<=u*v/\u*v<=U*V:=by
 have e:=Rat.mul_nonneg (a:=U-u) (b:=V+v) DG DG;have f:=Rat.mul_nonneg (a:=U+u) (b:=V-v) DG DG;have g:=Rat.mul_nonneg (a:=U-u) (b:=V-v) DG DG;have i:=Rat.mul_nonneg (a:=U+u) (b:=V+v) DG DG;constructor<;>grind
def Wi(K u:Rat):Prop:=-K<=u/\u<=K
def Wi.mul(h:Wi K u)(a:Wi L v):Wi (K*L) (u*v):=bR h.1 h.2 a.1 a.2
theorem Wi.add(h:Wi K u)(a:Wi L v):Wi (K+L) (u+v):=by have:=h.1;have:=h.2;have:=a.1;have:=a.2;constructor<;>grind
theorem Wi.mono(h:Wi K u)(hl:K<=L):Wi L u:=by have:=h.1;have:=h.2;constructor<;>grind
theorem Wi.neg(h:Wi K u):Wi K (-u):=by have:=h.1;have:=h.2;constructor<;>grind
def Hq(c:Rat)(p:List Rat)(x:Rat):ev (c::p) x=c+x*ev p x:=rfl
theorem JN(c:Rat):∃K,0<K/\Wi K c:=by
 rcases JX 0 c with h|h
 . exact⟨c+1,DG,by constructor<;>grind⟩
 . exact⟨-c+1,DG,by constructor<;>grind⟩
theorem XM(p:List Rat){B:Rat}(b:0<=B):∃K,0<K/\∀x,Wi B x->Wi K (ev p x):=by
 induction p with
 |nil=>exact⟨1,DJ,λx _=>⟨by simp[ev];grind,by simp[ev];grind⟩⟩
 |cons c p f=>
  obtain⟨K,d,h⟩:=f;obtain⟨C,hC,e⟩:=JN c;have:=Rat.mul_nonneg b (Rat.le_of_lt d);exact⟨C+B*K,DG,λx a=>e.add (a.mul (h x a))⟩
theorem bS(p:List Rat){B:Rat}(a:0<=B):∃K,0<K/\∀x y,Wi B x->Wi B y->x<=y->Wi (K*(y-x)) (ev p x-ev p y):=by
 induction p with
 |nil=>exact⟨1,DJ,λx y _ _ d=>⟨by simp[ev];grind,by simp[ev];grind⟩⟩
 |cons c p l=>
  obtain⟨K,j,h⟩:=l;obtain⟨C,hC,k⟩:=XM p a;refine⟨C+B*K+1,by have:=Rat.mul_nonneg a (Rat.le_of_lt j);grind,λx y b f d=>?_⟩;have g:Wi (y-x) (x-y):=⟨DG,DG⟩;have i:=(g.mul (k x b)).add (f.mul (h x y b f d));have e:ev (c::p) x-ev (c::p) y=(x-y)*ev p x+y*(ev p x-ev p y):=by rw[Hq,Hq];grind
  rw[e];refine i.mono ?_;grind
def Sh(B:Rat)(P:Rat->Rat->Prop):Prop:=∃d,0<d/\∀x y,Wi B x->Wi B y->x<=y->y-x<=d->P x y
section
variable {B:Rat} {P Q:Rat->Rat->Prop}
def Sh.and(h:Sh B P)(f:Sh B Q):Sh B λx y=>P x y/\Q x y:=by
 obtain⟨d,d0,h⟩:=h;obtain⟨e,g,f⟩:=f;rcases JX d e with i|i
 . exact⟨d,d0,λx y a b c l=>⟨h x y a b c l,f x y a b c DG⟩⟩
 . exact⟨e,g,λx y a b c l=>⟨h x y a b c DG,f x y a b c l⟩⟩
def Sh.mono(h:Sh B P)(hi:∀x y,Wi B x->Wi B y->x<=y->P x y->Q x y):Sh B Q:=by
 obtain⟨d,d0,h⟩:=h;exact⟨d,d0,λx y a b c l=>hi x y a b c (h x y a b c l)⟩
def Sh.all(h:∀x y,Wi B x->Wi B y->x<=y->P x y):Sh B P:=⟨1,DJ,λx y a b c _=>h x y a b c⟩
end
def Stb(p:List Rat)(x y:Rat):Prop:=0<ev p x*ev p y
theorem Xc(p:List Rat){B e:Rat}(k:0<=B)(m:0<e):Sh B λx y=>¬Stb p x y->Wi e (ev p x)/\Wi e (ev p y):=by
 obtain⟨K,g,h⟩:=bS p k;refine⟨e/K,Yf m g,λx y a b c l hn=>?_⟩;have i:=h x y a b c;have j:K*(y-x)<=e:=by
  have:=Rat.mul_le_mul_of_nonneg_left l (Rat.le_of_lt g);have n:K*(e/K)=e:=by rw[AU,Aj DG]
  grind
 have f:=i.mono j;have hs:ev p x*ev p y<=0:=Rat.not_lt.1 hn;have o:=f.1;have q:=f.2;rcases JX 0 (ev p x)with p1|p1<;>rcases JX 0 (ev p y)with d|d
 . rcases Rat.le_iff_lt_or_eq.1 p1 with q1|q1
   . rcases Rat.le_iff_lt_or_eq.1 d with q2|q2
     . have:=Rat.mul_pos q1 q2;grind
     . constructor<;>constructor<;>grind
   . constructor<;>constructor<;>grind
 . constructor<;>constructor<;>grind
 . constructor<;>constructor<;>grind
 . rcases Rat.le_iff_lt_or_eq.1 p1 with q1|q1
   . rcases Rat.le_iff_lt_or_eq.1 d with q2|q2
     . have:=Rat.mul_pos (a:=- ev p x) (b:=- ev p y) DG DG;grind
     . constructor<;>constructor<;>grind
   . constructor<;>constructor<;>grind
end
section
def Xd:Rat->List Rat->Nat
 |_,[]=>0
 |a,b::l=>if b=0 then Xd a l else(if a*b<0 then 1 else 0)+Xd b l
def DL(l:List Rat):Nat:=Xd 0 l
def JD(l:List (List Rat))(x:Rat):List Rat:=l.map λp=>ev p x
variable{a b:Rat}
def JW(p:List Rat)(l:List (List Rat))(x:Rat):JD (p::l) x=ev p x::JD l x:=rfl
theorem bT(h:a<0)(c:0<=b):a*b<=0:=by
 have:=Rat.mul_nonneg (a:=-a) (b:=b) DG c;grind
theorem SF(h:a<0)(c:0<=b)(d:0<a*b):False:=by have:=bT h c;grind
theorem Mv{c d:Rat}(h:0<a*c)(j:0<b*d):a*b<0↔c*d<0:=by
 have g:0<(a*b)*(c*d):=by have:=Rat.mul_pos h j;grind
 constructor
 . intro i;rcases JX 0 (c*d)with f|f
   . exact(SF i f g).elim
   . rcases Rat.le_iff_lt_or_eq.1 f with e|e
     . exact e
     . rw[e]at g;grind
 . intro i;rcases JX 0 (a*b)with f|f
   . grind[SF]
   . rcases Rat.le_iff_lt_or_eq.1 f with e|e
     . exact e
     . rw[e]at g;grind
theorem JC(h:0<a*b):a≠0/\b≠0:=⟨λe=>by rw[e]at h;grind,λe=>by rw[e]at h;grind⟩
theorem O0(h:a*b<0):a≠0/\b≠0:=⟨λe=>by rw[e]at h;grind,λe=>by rw[e]at h;grind⟩
theorem X7(h:b≠0)(l:List Rat):Xd a (b::l)=(if a*b<0 then 1 else 0)+Xd b l:=by
 rw[Xd,BG h]
theorem SG{g h:Rat}(hh:a*h<0)(l:List Rat):Xd a (g::h::l)=1+Xd h l:=by
 obtain⟨a0,c⟩:=O0 hh;by_cases g0:g=0
 . rw[Xd,BH g0,X7 c,BH hh]
 . rw[X7 g0,X7 c];have f:0<g*g:=by
    rcases JX 0 g with d|d
    . grind[Rat.mul_pos]
    . rcases Rat.le_iff_lt_or_eq.1 d with e|e
      . have:=Rat.mul_pos (a:=-g) (b:=-g) DG DG;grind
      . exact absurd e g0
   have i:(a*g)*(g*h)<0:=by
    have:=Rat.mul_pos (a:=-(a*h)) (b:=g*g) DG f;grind
   by_cases p:a*g<0
   . have:¬g*h<0:=λq=>by
      have:=Rat.mul_pos (a:=-(a*g)) (b:=-(g*h)) DG DG;grind
     grind
   grind[Rat.mul_nonneg,Rat.not_lt]
def SH(x y:Rat):List (List Rat)->Prop
 |[]=>False
 |[f]=>Stb f x y
 |[_,g]=>Stb g x y
 |f::g::h::l=>(Stb f x y\/Stb g x y)/\(¬Stb g x y->ev f x*ev h x<0/\ev f y*ev h y<0)/\SH x y (g::h::l)
structure Gd(x y:Rat)(l:List (List Rat)):Prop where
 o:SH x y l
section
variable {x y:Rat}
variable{l:List (List Rat)}{f g:List Rat}{a:Rat}
def Gd.adj(h:Gd x y (f::g::l)):Stb f x y\/Stb g x y:=by
 match l,h with
 |[],h=>exact Or.inr h.o
 |_::_,h=>exact h.o.1
def Gd.tail(h:Gd x y (f::g::l)):Gd x y (g::l):=by
 match l,h with
 |[],h=>exact⟨h.o⟩
 |_::_,h=>exact⟨h.o.2.2⟩
def Gd.same:∀(n:Nat) (l:List (List Rat)) (f:List Rat),l.length<=n->Gd x y (f::l)->Stb f x y->Xd (ev f x) (JD l x)=Xd (ev f y) (JD l y):=by
 intro n;induction n with
 |zero=>
  intro l f hl _ _
  have:l=[]:=Ak.1 O
  subst this;rfl
 |succ n b=>
  intro l f hl hg c;match l,hl,hg with
  |[],_,_=>rfl
  |g::l,hl,hg=>
   by_cases hs:Stb g x y
   . obtain⟨d,e⟩:=JC hs;rw[JW,JW,X7 d,X7 e,b l g (by simp at hl;omega) hg.tail hs];have:=Mv c hs;by_cases p:ev f x*ev g x<0
     . rw[BH p,BH (this.1 p)]
     . rw[BG p,BG λq=>p (this.2 q)]
   . match l,hl,hg with
     |[],_,hg=>exact absurd hg.o hs
     |h::l,hl,hg=>
      have hh:Stb h x y:=(hg.tail.adj).resolve_left hs;have a:ev f x*ev h x<0/\ev f y*ev h y<0:=hg.o.2.1 hs;rw[JW,JW,JW,JW,SG a.1,SG a.2,b l h (by simp at hl;omega) hg.tail.tail hh]
theorem O1(h:a≠0)(l:List Rat):DL (a::l)=Xd a l:=by
 grind[DL,X7]
theorem Iq{b:Rat}(h:b≠0)(l:List Rat):DL (a::b::l)=(if a*b<0 then 1 else 0)+Xd b l:=by
 grind[DL,Xd,O1]
def Gd.stay(h:Gd x y (f::l))(a:Stb f x y):DL (JD (f::l) x)=DL (JD (f::l) y):=by
 obtain⟨b,c⟩:=JC a;rw[JW,JW,O1 b,O1 c];exact h.same _ l f (Aa _) a
theorem Gd.both{m:List (List Rat)}(h:Gd x y (f::l))(c:Gd x y (g::m)){k:Rat}(hk:k≠0)(o:∀x,ev f x=k*ev g x)
(n:¬Stb g x y->∀f1 l1 d j,l=f1::l1->m=d::j->0<k*ev f1 x*ev d x/\0<k*ev f1 y*ev d y):
 DL (JD (f::l) x)+DL (JD (g::m) y)=DL (JD (f::l) y)+DL (JD (g::m) x):=by
 have C:0<k*k:=by
  rcases JX 0 k with e|e
  . grind[Rat.mul_pos]
  . rcases Rat.le_iff_lt_or_eq.1 e with c|c
    . have:=Rat.mul_pos (a:=-k) (b:=-k) DG DG;grind
    . exact absurd c hk
 have p:ev f x*ev f y=(k*k)*(ev g x*ev g y):=by rw[o,o];grind
 by_cases hs:Stb g x y
 . have i:Stb f x y:=by unfold Stb at *;rw[p];exact Rat.mul_pos C hs
   have:=h.stay i;have:=c.stay hs;omega
 . have i:¬Stb f x y:=λq=>hs (by
    unfold Stb at *;rw[p]at q;rcases JX (ev g x*ev g y) 0 with r|r
    . have:=Rat.mul_nonneg (a:=k*k) (b:=-(ev g x*ev g y)) DG DG;grind
    . rcases Rat.le_iff_lt_or_eq.1 r with r|r
      . exact r
      . rw[<-r]at q;grind)
   match l,m,h,c,n hs with
   |[],_,h,_,_=>exact absurd h.o i
   |_::_,[],_,c,_=>exact absurd c.o hs
   |f1::l1,d::j,h,c,n=>
    obtain⟨p1,H⟩:=n f1 l1 d j rfl rfl;have u:=(h.adj).resolve_left i;have v:=(c.adj).resolve_left hs;obtain⟨D,E⟩:=JC u;obtain⟨F,G⟩:=JC v;rw[JW,JW,JW,JW,JW,JW,JW,JW,Iq D,Iq E,Iq F,Iq G,h.tail.same _ l1 f1 (Aa _) u,c.tail.same _ j d (Aa _) v];have t:∀z,0<k*ev f1 z*ev d z->(ev f z*ev f1 z<0↔ev g z*ev d z<0):=λz B=>by
     have w:ev f z*ev f1 z=ev g z*(k*ev f1 z):=by rw[o];grind
     rw[w];by_cases s:ev g z=0
     . rw[s];grind
     . have A:0<ev g z*ev g z:=by
        rcases JX 0 (ev g z)with e|e
        . grind[Rat.mul_pos]
        . rcases Rat.le_iff_lt_or_eq.1 e with c|c
          . have:=Rat.mul_pos (a:=-(ev g z)) (b:=-(ev g z)) DG DG;grind
          . exact absurd c s
       exact Mv A B
    grind
end
end
def SJ:List (List Rat)->Prop
 |[]=>False
 |[f]=>∃c:Rat,c≠0/\∀x,ev f x=c
 |[_,g]=>∃c:Rat,c≠0/\∀x,ev g x=c
 |f::g::h::l=>(∃(q:List Rat) (a c:Rat),0<a/\0<c/\∀x,a*ev f x=ev q x*ev g x-c*ev h x)/\SJ (g::h::l)
structure StC(l:List (List Rat)):Prop where
 o:SJ l
variable{f g p:List Rat}{U V a c e i u v w w2 y2:Rat}
theorem StC.one(h:c≠0)(k:∀x,ev f x=c):StC [f]:=⟨⟨c,h,k⟩⟩
def StC.two(h:c≠0)(k:∀x,ev g x=c):StC [f,g]:=⟨⟨c,h,k⟩⟩
def StC.more{h q:List Rat}{l:List (List Rat)}(b:0<a)(d:0<c)(k:∀x,a*ev f x=ev q x*ev g x-c*ev h x)(n:StC (g::h::l)):StC (f::g::h::l):=⟨⟨⟨q,a,c,b,d,k⟩,n.o⟩⟩
def G8:(0:Rat)<1/4:=DG
theorem Jn(c x:Rat):ev [c] x=c:=by simp[ev];grind
theorem XD(g:c≠0)(h:∀x,ev f x=c)(x y:Rat):Stb f x y:=by
 unfold Stb;rw[h,h];rcases JX 0 c with d|d
 . grind[Rat.mul_pos]
 . rcases Rat.le_iff_lt_or_eq.1 d with e|e
   . have:=Rat.mul_pos (a:=-c) (b:=-c) DG DG;grind
   . exact absurd e g
theorem StC.cop:∀ {f g:List Rat} {l:List (List Rat)},StC (f::g::l)->∃u v:List Rat,∀x,ev u x*ev f x+ev v x*ev g x=1
 |_,_,[],⟨⟨c,b,d⟩⟩=>by
  refine⟨[],[1/c],λx=>?_⟩;grind[ev]
 |f,g,h::l,⟨⟨⟨q,a,c,i,b,d⟩,e⟩⟩=>by
  have hn:StC (g::h::l):=⟨e⟩;obtain⟨u,v,k⟩:=StC.cop hn;have j:c≠0:=DG
  refine⟨Jj [-(a/c)] v,X2 u (Jj [1/c] (Jj v q)),λx=>?_⟩;grind[Je,YQ,ev]
theorem KM{f g:Rat}(h:u*f+v*g=1)(b:Wi U u)(a:Wi e f)(c:U*e<=1/4):3/4<=v*g:=by
 have:=(b.mul a).2;grind
theorem StC.gd{B:Rat}(j:0<=B):∀ {l:List (List Rat)},StC l->Sh B λx y=>Gd x y l
 |[_],⟨⟨_,m,k⟩⟩=>Sh.all λx y _ _ _=>⟨XD m k x y⟩
 |[_,_],⟨⟨_,m,k⟩⟩=>Sh.all λx y _ _ _=>⟨XD m k x y⟩
 |f::g::h::l,⟨⟨⟨q,a,c,X,m,k⟩,ae⟩⟩=>by
  have hn:StC (g::h::l):=⟨ae⟩;have p:=StC.gd j hn;obtain⟨u,v,ah⟩:=(StC.more X m k hn).cop;obtain⟨u2,w,ai⟩:=hn.cop;obtain⟨U1,p1,R⟩:=XM u j;obtain⟨U2,p2,S⟩:=XM v j;obtain⟨T,p3,U⟩:=XM u2 j;obtain⟨i,t,V⟩:=XM w j;obtain⟨Q,M,P⟩:=XM q j;have d:∀ {r K:Rat},0<r->0<K->K*(r/K)=r:=λ_ hK=>by grind
  have E:=(((Xc f j (Yf G8 p1)).and (Xc g j (Yf G8 p2))).and ((Xc g j (Yf G8 p3)).and (Xc g j (Yf (Yf (show(0:Rat)<c/2 by grind) t) M)))).and p;refine E.mono λx y L hy aj ⟨⟨⟨tf,tg⟩,an,ap⟩,p⟩=>?_;refine⟨⟨?_,λhn=>?_,p.o⟩⟩
  . by_cases N:Stb f x y
    . exact Or.inl N
    . by_cases sg:Stb g x y
      . exact Or.inr sg
      . exfalso
        have C:=KM (ah x) (R x L) (tf N).1 DG;have n:=((S x L).mul (tg sg).1).2;grind
  . have am:∀z,Wi B z->Wi (1/4/T) (ev g z)->Wi (c/2/i/Q) (ev g z)->ev f z*ev h z<0:=λz o w1 w2=>by
     have C:=KM (ai z) (U z o) w1 DG;have n:=(P z o).mul w2;rw[d (Yf (show(0:Rat)<c/2 by grind) t) M]at n;have D:=k z;have F:=V z o;have G:Wi (c/2) (i*(ev q z*ev g z)):=by
      have:=(show Wi i i from⟨DG,DG⟩).mul n;rwa[d (show(0:Rat)<c/2 by grind) t]at this
     have A:ev h z≠0:=λe=>by rw[e]at C;grind
     rcases JX 0 (ev h z)with s|s
     . have s:0<ev h z:=by
        rcases Rat.le_iff_lt_or_eq.1 s with s|s
        . exact s
        . exact absurd s.symm A
       have W:3/4<=i*ev h z:=by
        have:=Rat.mul_nonneg (a:=i-ev w z) (b:=ev h z) (by have:=F.2;grind) DG;grind
       have H:i*(a*ev f z)<0:=by
        rw[D];have:=Rat.mul_nonneg (a:=c) (b:=i*ev h z-3/4) DG DG;have:=G.2;grind
       have I:ev f z<0:=by
        rcases JX 0 (ev f z)with r|r
        . have:=Rat.mul_nonneg (a:=i*a) (b:=ev f z) (Rat.mul_nonneg DG DG) r;grind
        . rcases Rat.le_iff_lt_or_eq.1 r with r|r
          . exact r
          . rw[r]at H;grind
       have:=Rat.mul_pos (a:=-ev f z) (b:=ev h z) DG s;grind
     . have s:ev h z<0:=by
        rcases Rat.le_iff_lt_or_eq.1 s with s|s
        . exact s
        . exact absurd s A
       have W:i*ev h z<=-(3/4):=by
        have:=Rat.mul_nonneg (a:=i+ev w z) (b:=-ev h z) (by have:=F.1;grind) DG;grind
       have H:0<i*(a*ev f z):=by
        rw[D];have:=Rat.mul_nonneg (a:=c) (b:=-(i*ev h z)-3/4) DG DG;have:=G.1;grind
       have I:0<ev f z:=by
        rcases JX (ev f z) 0 with r|r
        . have:=Rat.mul_nonneg (a:=i*a) (b:=-ev f z) (Rat.mul_nonneg DG DG) DG;grind
        . grind
       have:=Rat.mul_pos (a:=ev f z) (b:=-ev h z) I DG;grind
    grind
theorem steps{d:Rat}(i:0<d)(a b:Rat):∃n:Nat,b-a<=(n:Rat)*d:=by
 obtain⟨q,hq⟩:=ex ((b-a)/d);refine⟨q.ceil.toNat,?_⟩;have e:b-a=q*d:=by rw[<-hq,Aj DG]
 rw[e];have g:q<=(q.ceil.toNat:Rat):=by
  have c:q<=(q.ceil:Rat):=Rat.le_ceil;have f:(q.ceil:Rat)<=((q.ceil.toNat:Int):Rat):=Rat.intCast_le_intCast.2 (Int.self_le_toNat _);exact Rat.le_trans c f
 have:=Rat.mul_nonneg (a:=(q.ceil.toNat:Rat)-q) (b:=d) DG DG;grind
theorem glue{B:Rat}{F G:Rat->Nat}(h:Sh B λx y=>F x+G y=F y+G x){b:Rat}(c:Wi B a)(i:Wi B b)(e:a<=b):F a+G b=F b+G a:=by
 obtain⟨d,d0,h⟩:=h;obtain⟨n,hn⟩:=steps d0 a b
 have:∀(n:Nat) (a:Rat),Wi B a->a<=b->b-a<=(n:Rat)*d->F a+G b=F b+G a:=by
  intro n;induction n with
  |zero=>
   intro a c e f;grind
  |succ n l=>
   intro a c e f;have j:((n+1:Nat):Rat)=(n:Rat)+1:=by rw[Rat.natCast_add];rfl
   rw[j]at f;rcases JX (b-a) d with g|g
   . exact h a b c i e g
   . have k:Wi B (a+d):=⟨by have:=c.1;grind,by have:=i.2;grind⟩;grind
 exact this n a c e hn
theorem Xo(a:Rat):0<=a*a:=by
 rcases JX 0 a with h|h
 . exact Rat.mul_nonneg h h
 . have:=Rat.mul_nonneg (a:=-a) (b:=-a) DG DG;grind
theorem La(h:Wi V v):v*v<=V*V:=by
 have:=Rat.mul_nonneg (a:=V-v) (b:=V+v) (by have:=h.2;grind) (by have:=h.1;grind);grind
theorem bU{y d c:Rat}(k:Wi U u)(hv:Wi V v)(m:Wi i y)(f:Wi e a)(j:Wi d w2)(n:Wi c y2)(z:u*w+v*y=1)(l:w=a*w2)
(o:U*(e*d)<=1/4)(p:(V*V)*(e*(i*c))<=1/16):1/2<=(V*V)*(y*(y-a*y2)):=by
 have g:=(k.mul (f.mul j)).2;rw[<-l]at g;have q:3/4<=v*y:=DG
 have r:=Rat.mul_nonneg (a:=V*V-v*v) (b:=y*y) (by have:=La hv;grind) (Xo y);have s:=Rat.mul_nonneg (a:=v*y-3/4) (b:=v*y+3/4) DG DG;have t:=(f.mul (m.mul n)).2;have x:=Rat.mul_nonneg (a:=V*V) (b:=e*(i*c)-a*(y*y2)) (Xo V) DG;grind
theorem bV{y c A A1 d f n:Rat}(D:Wi U u)(hv:Wi V v)(o:Wi A a)(B:Wi A1 i)(m:Wi e w2)(g:Wi d c)(p:Wi f y2)(X:u*w+v*y=1)(E:w=a*w2)
(k:y=i*w2+a*(c+y2))(hn:0<n)(hp:n<=y2*c)(F:U*(A*e)<=1/4)(G:V*(A1*e)<=1/4)
(s:((V*(d+f))*(V*(d+f)))*((A1*e)*(A*(d+d+f)))<=n/8):n/8<=((V*(d+f))*(V*(d+f)))*(y*(i*w2+a*c)):=by
 obtain⟨M,hM⟩:=ex (V*(d+f));have j:=hv.mul (g.add p);rw[hM]at j s ⊢;have x:=(D.mul (o.mul m)).2;rw[<-E]at x;obtain⟨t,C⟩:=ex (i*w2);have l:=B.mul m;rw[C]at l k ⊢;have P:=(hv.mul l).2;have z:v*y=v*t+a*(v*(c+y2)):=by rw[k];grind
 obtain⟨q,hq⟩:=ex (v*(c+y2));rw[hq]at z j;have Q:1/2<=a*q:=DG
 have R:=Rat.mul_nonneg (a:=a*a) (b:=M*M-q*q) (Xo a) (by have:=La j;grind);have S:=Rat.mul_nonneg (a:=a*q-1/2) (b:=a*q+1/2) DG DG;have T:1/4<=(a*a)*(M*M):=DG
 have W:=Rat.mul_nonneg (a:=(a*a)*(M*M)-1/4) (b:=n) DG DG;have H:=Rat.mul_nonneg (a:=(a*a)*(M*M)) (b:=y2*c-n) DG DG;have I:=Rat.mul_nonneg (a:=(a*a)*(M*M)) (b:=c*c) DG (Xo c);have K:=Rat.mul_nonneg (a:=M*M) (b:=t*t) (Xo M) (Xo t);have L:=(l.mul (o.mul ((g.add g).add p))).1;have N:=Rat.mul_nonneg (a:=M*M) (b:=t*(a*(c+c+y2))+(A1*e)*(A*(d+d+f))) (Xo M) DG;have r:y*(t+a*c)=t*t+t*(a*(c+c+y2))+(a*a)*(c*c)+(a*a)*(y2*c):=by rw[k];grind
 rw[r];grind
theorem small{K r:Rat}(d:0<=K)(c:0<r):∃e,0<e/\∀f,f<=e->K*f<=r:=by
 refine⟨r/(K+1),Yf c DG,λf k=>?_⟩;have g:r/(K+1)*(K+1)=r:=Aj DG;have i:=Rat.mul_nonneg (a:=K) (b:=r/(K+1)-f) d DG;have j:=Yf c (show(0:Rat)<K+1 by grind);grind
theorem SK{s:Rat}(hs:s*s=1):∀(p:List Rat),Jc p=p->p≠[]->∃B e:Rat,0<B/\0<e/\∀x,B<=x->e<=s^(p.length-1)*cf p (p.length-1)*ev p (s*x):=by
 intro p;induction p with
 |nil=>intro _ h;exact absurd rfl h
 |cons c t l=>
  intro tp p0;by_cases d:t=[]
  . subst d;have c0:c≠0:=by
     have:=Jq tp p0;simpa[cf]using this
    refine⟨1,c*c,DJ,?_,λx _=>?_⟩
    . have:=XD (f:=[c]) c0 (λx=>Jn c x) 0 0;unfold Stb at this;rwa[Jn]at this
    . rw[Jn];simp[cf]
  . have m:Jc t=t:=by
     refine Mt (Or.inr ?_);have:=Jq tp p0;have hl:=Ae.2 d;rw[Ai,show t.length+1-1=(t.length-1)+1 by omega,Yl]at this;exact this
    obtain⟨B,e,y,g,h⟩:=l m d;have hl:=Ae.2 d;obtain⟨n,hn⟩:∃n,t.length=n+1:=⟨t.length-1,O⟩;have hk:cf (c::t) ((c::t).length-1)=cf t n:=by
     rw[Ai,hn,show n+1+1-1=n+1 by omega,Yl]
    rw[hk,Ai,hn,show n+1+1-1=n+1 by omega];rw[hn,show n+1-1=n by omega]at h;generalize cf t n=k at *;obtain⟨D,hD,j⟩:=JN (s^(n+1)*k*c);refine⟨B+(D+e)/e,e,?_,g,λx z=>?_⟩
    . have:=Yf (a:=D+e) (b:=e) DG g;grind
    . have o:=Yf (a:=D+e) (b:=e) DG g;have q:=h x DG;have r:(D+e)/e*e=D+e:=Aj DG;rw[Hq];have i:s^(n+1)*k*(c+s*x*ev t (s*x))=s^(n+1)*k*c+x*(s^n*k*ev t (s*x)):=by
       rw[Rat.pow_succ];grind
      rw[i];have u:=Rat.mul_nonneg (a:=x) (b:=s^n*k*ev t (s*x)-e) DG DG;have v:=Rat.mul_nonneg (a:=x-(D+e)/e) (b:=e) DG DG;have w:=j.1;grind
theorem bW(tp:Jc p=p)(p0:p≠[]):∃B,0<B/\∀x,B<=x->0<cf p (p.length-1)*ev p x:=by
 obtain⟨B,e,a,f,b⟩:=SK (s:=1) DG p tp p0;refine⟨B,a,λx c=>?_⟩;have g:=b x c;have d:∀n:Nat,(1:Rat)^n=1:=λn=>by
  induction n with
  |zero=>rfl
  |succ n i=>grind
 grind
theorem bX(tp:Jc p=p)(p0:p≠[]):∃B,0<B/\∀x,x<=-B->0<(-1)^(p.length-1)*cf p (p.length-1)*ev p x:=by
 obtain⟨B,e,a,d,b⟩:=SK (s:=-1) DG p tp p0;refine⟨B,a,λx f=>?_⟩;have c:=b (-x) DG;rw[show(-1:Rat)*-x=x by grind]at c;grind
theorem SL:∀(l m:List Rat) (a b:Rat),l.length=m.length->(∀i (k:i<l.length) (e:i<m.length),0<l[i]*m[i])->(0<a*b\/(a=0/\b=0))->Xd a l=Xd b m:=by
 intro l;induction l with
 |nil=>intro m a b h _ _;cases m with|nil=>rfl|cons=>simp at h
 |cons c l n=>
  intro m a b h e f;cases m with
  |nil=>simp at h
  |cons d m=>
   have g:0<c*d:=e 0 DH DH;obtain⟨o,p⟩:=JC g;have j:=n m c d (by simpa using h) (λi k q=>e (i+1) si si) (Or.inl g);rw[X7 o,X7 p,j];rcases f with f|⟨rfl,rfl⟩
   . grind[Mv]
   grind

