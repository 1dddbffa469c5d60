import Derived.Test.YtcahejkcdcjjgaaGreatDoorT00
set_option maxRecDepth 100000
set_option maxHeartbeats 16000000
namespace Go.Proofs.YtcahejkcdcjjgaaGreatDoor
theorem Bv:type_of% @List.getElem?_eq_getElem:=@List.getElem?_eq_getElem
theorem BI:type_of% @if_pos:=@if_pos
theorem BE:type_of% @if_neg:=@if_neg
def cf(p:List Rat)(i:Nat):Rat:=p[i]?.getD 0
variable{p q:List Rat}{i k n:Nat}{f:Nat->Rat}
theorem Xb(i:Nat):cf [] i=0:=by simp[cf]
theorem Yo(c:Rat)(t:List Rat):cf (c::t) 0=c:=by simp[cf]
theorem J8(c:Rat)(t:List Rat)(i:Nat):cf (c::t) (i+1)=cf t i:=by simp[cf]
theorem J4(h:p.length<=i):cf p i=0:=by simp[cf,List.getElem?_eq_none h]
theorem LD(h:i<p.length):cf p i=p[i]:=by simp[cf,List.getElem?_eq_getElem h]
theorem LE(p:List Rat)(c:Rat)(i:Nat):cf (p++[c]) i=if i=p.length then c else cf p i:=by
 unfold cf;by_cases h:i<p.length
 . rw[AW h,BE om]
 . rw[AJ om];by_cases a:i=p.length
   . rw[BI a,a];simp
   . rw[BE a,Aq si,Aq om]
theorem X1(p:List Rat)(k:Nat)(c:Rat)(i:Nat)(a:k<p.length):cf (p.set k c) i=if i=k then c else cf p i:=by
 unfold cf;by_cases h:i=k
 . subst h;rw[BI rfl,A4 a];rfl
 . rw[BE h,AN (λe=>h e.symm)]
theorem J3(n:Nat)(i:Nat):cf (List.replicate n 0) i=0:=by
 unfold cf;rw[List.getElem?_replicate];split<;>rfl
theorem Ms(n:Nat)(f:Nat->Rat)(i:Nat):cf ((List.range n).map f) i=if i<n then f i else 0:=by
 unfold cf;rw[CP];by_cases h:i<n
 . rw[List.getElem?_range h,BI h];rfl
 . rw[Aq si,BE h];rfl
theorem LF(p:List Rat)(n i:Nat):cf (p.take n) i=if i<n then cf p i else 0:=by
 unfold cf;rw[Fd];split<;>rfl
def Jh:List Rat->List Rat
 |[]=>[]
 |c::t=>match Jh t with
  |[]=>if c=0 then []else [c]
  |d::s=>c::d::s
theorem J9(p:List Rat)(i:Nat):cf (Jh p) i=cf p i:=by
 induction p generalizing i with
 |nil=>rfl
 |cons c t b=>
  have a:=b;rw[Jh];split
  . rename_i h;rw[h]at a;cases i with
    |zero=>split<;>simp_all [cf]
    |succ i=>
     rw[J8,<-a i,Xb];split
     . rfl
     . rw[J8,Xb]
  . rename_i d s h;rw[<-h];cases i with
    |zero=>rfl
    |succ i=>rw[J8,J8,a]
theorem Iy(h:∀i,cf p i=0):Jh p=[]:=by
 induction p with
 |nil=>rfl
 |cons c t d=>
  have b:=d (λi=>by rw[<-J8 c t i];exact h (i+1));have a:c=0:=by rw[<-Yo c t];exact h 0
  rw[Jh,b];show(if c=0 then []else [c])=[];rw[BI a]
theorem YD(h:∀i,cf p i=cf q i):Jh p=Jh q:=by
 induction p generalizing q with
 |nil=>rw[Iy (p:=q) (λi=>by rw[<-h i,Xb])];rfl
 |cons c t e=>
  cases q with
  |nil=>rw[Iy (p:=c::t) (λi=>by rw[h i,Xb])];rfl
  |cons d s=>
   have b:c=d:=by have:=h 0;rwa[Yo,Yo]at this
   have a:=e (q:=s) (λi=>by have:=h (i+1);rwa[J8,J8]at this);rw[Jh,Jh,b,a]
theorem Y2(p:List Rat):Jh (Jh p)=Jh p:=YD (J9 p)
theorem Jz(p:List Rat):(Jh p).length<=p.length:=by
 induction p with
 |nil=>exact Aa _
 |cons c t a=>
  rw[Jh];split
  . split<;>simp
  . rename_i d s h;rw[h]at a;simp only[Aj]at a ⊢;omega
theorem Y3(h:Jh p=p)(f:p≠[]):cf p (p.length-1)≠0:=by
 induction p with
 |nil=>exact absurd rfl f
 |cons c t i=>
  rw[Jh]at h;split at h
  . rename_i b;split at h
    . cases h
    . rename_i a;simp only[C7,true_and]at h;subst h;simpa[cf]using a
  . rename_i d s b;simp only[C7,true_and]at h;have a:Jh t=t:=by rw[b,h]
    have g:=i a (by rw[<-h];simp);have e:(c::t).length-1=(t.length-1)+1:=by rw[<-h];simp
    rw[e,J8];exact g
theorem Mt(h:p=[]\/cf p (p.length-1)≠0):Jh p=p:=by
 induction p with
 |nil=>rfl
 |cons c t a=>
  rcases h with h|h
  . cases h
  . cases t with
    |nil=>rw[Jh];show(if c=0 then []else [c])=[c];rw[BE (by simpa[cf]using h)]
    |cons d s=>
     have e:(c::d::s).length-1=((d::s).length-1)+1:=DO
     rw[e,J8]at h;rw[Jh,a (Or.inr h)]
theorem Mu(b:n<=p.length)(a:n=0\/cf p (n-1)≠0)(d:∀j,n<=j->cf p j=0):Jh p=p.take n:=by
 have e:Jh p=Jh (p.take n):=YD λi=>by
  rw[LF];split
  . rfl
  . exact d i om
 rw[e];refine Mt ?_;rcases a with a|a
 . left;rw[a];rfl
 . by_cases c:n=0
   . left;rw[c];rfl
   . right
     rw[Ai,Cx b,LF,BI om];exact a
theorem LG(h:∀j,n<=j->cf p j=0):(Jh p).length<=n:=by
 rcases AB n (Jh p).length with a|a
 . have b:=Y3 (Y2 p) (by intro c;rw[c]at a;simp at a);rw[J9]at b;exact absurd (h _ om) b
 . exact a
def ev:List Rat->Rat->Rat
 |[],_=>0
 |c::t,x=>c+x*ev t x
theorem Iz(h:∀i,cf p i=0)(x:Rat):ev p x=0:=by
 induction p with
 |nil=>rfl
 |cons c t d=>
  have b:=d (λi=>by rw[<-J8 c t i];exact h (i+1));have a:c=0:=by rw[<-Yo c t];exact h 0
  rw[ev,b,a];grind
theorem LH(h:∀i,cf p i=cf q i)(x:Rat):ev p x=ev q x:=by
 induction p generalizing q with
 |nil=>rw[Iz (p:=q) (λi=>by rw[<-h i,Xb])];rfl
 |cons c t e=>
  cases q with
  |nil=>rw[Iz (p:=c::t) (λi=>by rw[h i,Xb])];rfl
  |cons d s=>
   have b:c=d:=by have:=h 0;rwa[Yo,Yo]at this
   have a:=e (q:=s) (λi=>by have:=h (i+1);rwa[J8,J8]at this);rw[ev,ev,b,a]
theorem GP(p:List Rat)(x:Rat):ev (Jh p) x=ev p x:=LH (J9 p) x
def dv:List Rat->Rat->Rat
 |[],_=>0
 |_::t,x=>ev t x+x*dv t x
def F1:List Rat->Rat->List Rat
 |[],_=>[]
 |_::t,a=>match t with
  |[]=>[]
  |d::s=>ev (d::s) a::F1 (d::s) a
theorem P1(p:List Rat)(a:Rat):(F1 p a).length=p.length-1:=by
 induction p with
 |nil=>rfl
 |cons c t b=>
  cases t with
  |nil=>rfl
  |cons d s=>
   rw[F1,Aj,b];simp
theorem Mv(p:List Rat)(a x:Rat):ev p x=ev p a+(x-a)*ev (F1 p a) x:=by
 induction p with
 |nil=>simp[ev,F1];grind
 |cons c t b=>
  cases t with
  |nil=>simp[ev,F1];grind
  |cons d s=>
   rw[F1];generalize e:d::s=q at *;rw[ev,ev,ev,b];grind
theorem P2{m:Nat}(h:∀n:Nat,m<=n->ev p (n:Rat)=0)(x:Rat):ev p x=0:=by
 obtain⟨k,d⟩:=ex (p.length);induction k generalizing p m with
 |zero=>
  have:p=[]:=Am d;rw[this];rfl
 |succ k g=>
  have c:=h m (Aa _);have i:∀n:Nat,m+1<=n->ev (F1 p m) (n:Rat)=0:=λn o=>by
   have b:=Mv p (m:Rat) (n:Rat);rw[h n om,c]at b;have e:((n:Rat)-(m:Rat))≠0:=by
    intro l;have f:(n:Rat)=(m:Rat):=by grind
    have:=Rat.natCast_inj.1 f;omega
   have j:((n:Rat)-(m:Rat))*ev (F1 p m) n=0:=by grind
   rcases Rat.mul_eq_zero.1 j with a|a
   . exact absurd a e
   . exact a
  have b:=g i (by rw[P1,d];rfl);rw[Mv p (m:Rat) x,c,b];grind
theorem P3(h:∀x,ev p x=0)(i:Nat):cf p i=0:=by
 induction p generalizing i with
 |nil=>rfl
 |cons c t f=>
  have b:c=0:=by have:=h 0;rw[ev]at this;grind
  have j:∀x,ev t x=0:=λx=>P2 (m:=1) (λn o=>by
   have l:=h (n:Rat);rw[ev,b]at l;have d:(n:Rat)≠0:=λg=>by
    have e:(n:Rat)=((0:Nat):Rat):=g;have:=Rat.natCast_inj.1 e;omega
   have k:(n:Rat)*ev t n=0:=by grind
   rcases Rat.mul_eq_zero.1 k with a|a
   . exact absurd a d
   . exact a) x
  cases i with
  |zero=>rw[Yo];exact b
  |succ i=>rw[J8];exact f j i
def EF:List Rat->List Rat->List Rat
 |[],q=>q
 |p,[]=>p
 |c::t,d::s=>(c+d)::EF t s
def YJ(a:Rat)(p:List Rat):List Rat:=p.map (λc=>c*a)
def Ed:List Rat->List Rat->List Rat
 |[],_=>[]
 |c::t,q=>EF (YJ c q) (0::Ed t q)
theorem Xf(p q:List Rat)(i:Nat):cf (EF p q) i=cf p i+cf q i:=by
 induction p generalizing q i with
 |nil=>rw[EF,Xb];grind
 |cons c t a=>
  cases q with
  |nil=>
   rw[EF,Xb]
   . grind
   . intro h;cases h
  |cons d s=>
   rw[EF];cases i with
   |zero=>simp[cf]
   |succ i=>rw[J8,J8,J8,a]
theorem Y4(a:Rat)(p:List Rat)(i:Nat):cf (YJ a p) i=cf p i*a:=by
 unfold cf YJ;rw[CP];cases p[i]? with
 |none=>simp
 |some c=>rfl
theorem GA(p q:List Rat)(x:Rat):ev (EF p q) x=ev p x+ev q x:=by
 induction p generalizing q with
 |nil=>rw[EF,ev];grind
 |cons c t a=>
  cases q with
  |nil=>
   rw[EF]
   . rw[show ev [] x=0 from rfl];grind
   . intro h;cases h
  |cons d s=>rw[EF,ev,ev,ev,a];grind
theorem XG(a:Rat)(p:List Rat)(x:Rat):ev (YJ a p) x=ev p x*a:=by
 induction p with
 |nil=>simp[YJ,ev]
 |cons c t b=>
  rw[show YJ a (c::t)=(c*a)::YJ a t from rfl,ev,ev,b];grind
theorem Mw(p q:List Rat)(x:Rat):ev (Ed p q) x=ev p x*ev q x:=by
 induction p with
 |nil=>rw[Ed,ev];grind
 |cons c t a=>rw[Ed,GA,XG,ev,ev,a];grind
theorem I0(h:∀x,ev p x=ev q x):Jh p=Jh q:=by
 have a:∀i,cf (EF p (YJ (-1) q)) i=0:=P3 (λx=>by rw[GA,XG,h x];grind);refine YD λi=>?_;have:=a i;rw[Xf,Y4]at this;grind
def sumN:Nat->(Nat->Rat)->Rat
 |0,_=>0
 |n+1,f=>sumN n f+f n
theorem P4{g:Nat->Rat}(h:∀k,k<n->f k=g k):sumN n f=sumN n g:=by
 induction n with
 |zero=>rfl
 |succ n a=>rw[sumN,sumN,a (λk b=>h k om),h n om]
theorem LI(h:∀k,k<n->f k=0):sumN n f=0:=by
 induction n with
 |zero=>rfl
 |succ n a=>rw[sumN,a (λk b=>h k om),h n om];grind
theorem P5(n:Nat)(f:Nat->Rat):sumN (n+1) f=f 0+sumN n (λk=>f (k+1)):=by
 induction n with
 |zero=>simp[sumN];grind
 |succ n a=>rw[sumN,a,sumN];grind
def conv(p q:List Rat)(n k:Nat):Rat:=sumN n (λi=>if i<=k then cf p i*cf q (k-i)else 0)
theorem GQ(p q:List Rat)(k:Nat):cf (Ed p q) k=conv p q p.length k:=by
 induction p generalizing k with
 |nil=>rfl
 |cons c t b=>
  rw[Ed,Xf,Y4,conv,Aj,P5];rw[BI (AX _),Yo,CV];have e:cf (0::Ed t q) k=sumN t.length (λi=>if i+1<=k then cf (c::t) (i+1)*cf q (k-(i+1))else 0):=by
   cases k with
   |zero=>
    rw[Yo,LI];intro i a;rw[BE om]
   |succ k=>
    rw[J8,b,conv];refine P4 λi a=>?_;by_cases h:i<=k
    . rw[BI h,BI om,J8,show k+1-(i+1)=k-i from by omega]
    . rw[BE h,BE om]
  rw[e];grind
theorem P6(p q:List Rat)(h:p.length<=n):conv p q n k=conv p q p.length k:=by
 induction n with
 |zero=>rw[show p.length=0 from by omega]
 |succ n b=>
  by_cases a:p.length=n+1
  . rw[a]
  . rw[<-b om];show conv p q n k+_=_
    dsimp only;rw[J4 (show p.length<=n from by omega)];split<;>grind
theorem P7(p q:List Rat)(h:k+1<=n):conv p q n k=conv p q (k+1) k:=by
 induction n with
 |zero=>omega
 |succ n b=>
  by_cases a:k+1=n+1
  . rw[a]
  . rw[<-b om];show conv p q n k+_=_
    dsimp only;rw[BE om];grind
theorem P8(h:p.length+q.length<=k+1):cf (Ed p q) k=0:=by
 rw[GQ];refine LI λi a=>?_;split
 . rw[J4 (p:=q) om];grind
 . rfl
theorem P9(p q:List Rat)(m n:Nat)(a:p.length=m+1)(b:q.length=n+1):cf (Ed p q) (m+n)=cf p m*cf q n:=by
 rw[GQ,a,conv,sumN,BI om,show m+n-m=n from by omega];rw[LI]
 . grind
 . intro i c;split
   . rw[J4 (p:=q) om];grind
   . rfl
theorem QA(i:Jh p=p)(f:Jh q=q)(c:p≠[])(b:q≠[]):(Jh (Ed p q)).length=p.length+q.length-1:=by
 have k:=Y3 i c;have l:=Y3 f b;have m:0<p.length:=A3.2 c;have o:0<q.length:=A3.2 b;have g:=P9 p q (p.length-1) (q.length-1) om om;have e:cf (Ed p q) (p.length-1+(q.length-1))≠0:=by
  rw[g];intro d;rcases Rat.mul_eq_zero.1 d with a|a
  . exact k a
  . exact l a
 have d:(Jh (Ed p q)).length<=p.length+q.length-1:=LG λj n=>P8 om;rcases AB (Jh (Ed p q)).length (p.length+q.length-1)with a|a
 . rw[<-J9]at e;exact absurd (J4 om) e
 . omega
def I1(p:List Rat):List Rat:=(List.range (p.length-1)).map (λi=>cf p (i+1)*((i+1:Nat):Rat))
theorem LJ(p:List Rat)(i:Nat):cf (I1 p) i=cf p (i+1)*((i+1:Nat):Rat):=by
 unfold I1;rw[Ms];split
 . rfl
 . rw[J4 om];grind
theorem QB(p:List Rat):EF p []=p:=by cases p<;>rfl
theorem QC{u v a b:List Rat}(r:Jh q=q)(o:q≠[])(s:Jh u=u)(z:Jh a=a)(w:Jh v=v)(p:Jh b=b)(B:v.length<q.length)(C:b.length<q.length)
(h:∀x,ev q x*ev u x+ev v x=ev q x*ev a x+ev b x):u=a/\v=b:=by
 obtain⟨d,f⟩:=ex (Jh (EF u (YJ (-1) a)));have k:Jh d=d:=by rw[<-f,Y2]
 have g:∀x,ev d x=ev u x-ev a x:=λx=>by rw[<-f,GP,GA,XG];grind
 have i:∀x,ev (Ed d q) x=ev (EF b (YJ (-1) v)) x:=λx=>by
  rw[Mw,GA,XG,g];have:=h x;grind
 have y:=I0 i;have E:(Jh (EF b (YJ (-1) v))).length<q.length:=by
  refine CM (LG (n:=q.length-1) λj A=>?_) om;rw[Xf,Y4,J4 om,J4 om];grind
 have l:d=[]:=by
  by_cases c:d=[]
  . exact c
  . have t:=QA k r c o;have D:0<d.length:=A3.2 c;rw[y]at t;omega
 have m:∀x,ev u x=ev a x:=λx=>by
  have:=g x;rw[l,show ev [] x=0 from rfl]at this;grind
 have e:u=a:=by rw[<-s,<-z];exact I0 m
 refine⟨e,?_⟩;rw[<-w,<-p];exact I0 λx=>by
  have:=h x;rw[e]at this;grind
def Dg(i:Nat)(q:List Rat):List Rat:=List.replicate i 0++q
theorem GR(i:Nat)(q:List Rat)(k:Nat):cf (Dg i q) k=if i<=k then cf q (k-i)else 0:=by
 unfold cf Dg;by_cases h:k<i
 . rw[AW (by simpa using h),BE om,List.getElem?_replicate];split<;>rfl
 . rw[AJ si,BI om];simp
theorem I2(i:Nat)(q:List Rat)(x:Rat):ev (Dg i q) x=x^i*ev q x:=by
 induction i with
 |zero=>rw[show Dg 0 q=q from rfl];grind
 |succ i a=>
  rw[show Dg (i+1) q=0::Dg i q from rfl,ev,a];grind
def Y8(z:List Rat)(i:Nat)(a:Rat)(q:List Rat):Nat->List Rat
 |0=>z
 |j+1=>(Y8 z i a q j).set (i+j) (cf (Y8 z i a q j) (i+j)+a*cf q j)
theorem YE(z:List Rat)(i:Nat)(a:Rat)(q:List Rat)(j:Nat):(Y8 z i a q j).length=z.length:=by
 induction j with
 |zero=>rfl
 |succ j b=>rw[Y8,Ct,b]
theorem QD(z:List Rat)(i:Nat)(a:Rat)(q:List Rat)(j k:Nat)(h:i+j<=z.length):cf (Y8 z i a q j) k=cf z k+(if i<=k/\k<i+j then a*cf q (k-i)else 0):=by
 induction j with
 |zero=>rw[Y8,BE om];grind
 |succ j b=>
  have b:=b om;rw[Y8,X1 _ _ _ _ (by rw[YE];omega)];by_cases d:k=i+j
  . subst d;rw[BI rfl,b,BE om,BI om,show i+j-i=j from by omega];grind
  . rw[BE d,b];by_cases c:i<=k/\k<i+j
    . rw[BI c,BI om]
    . rw[BE c,BE om]
theorem LK(z:List Rat)(i:Nat)(a:Rat)(q:List Rat)(k:Nat)(h:i+q.length<=z.length):cf (Y8 z i a q q.length) k=cf z k+a*cf (Dg i q) k:=by
 rw[QD _ _ _ _ _ _ h,GR];by_cases b:i<=k
 . by_cases c:k<i+q.length
   . rw[BI ⟨b,c⟩,BI b]
   . rw[BE om,BI b,J4 (p:=q) om];grind
 . rw[BE om,BE b];grind
theorem QE(z:List Rat)(i:Nat)(a:Rat)(q:List Rat)(x:Rat)(h:i+q.length<=z.length):ev (Y8 z i a q q.length) x=ev z x+a*(x^i*ev q x):=by
 have e:∀k,cf (Y8 z i a q q.length) k=cf (EF z (YJ a (Dg i q))) k:=λk=>by
  rw[LK _ _ _ _ _ h,Xf,Y4];grind
 rw[LH e,GA,XG,I2];grind
def YO(p q:List Rat)(n:Nat):Nat->List Rat
 |0=>List.replicate n 0
 |i+1=>Y8 (YO p q n i) i (cf p i) q q.length
theorem LL(p q:List Rat)(n i:Nat):(YO p q n i).length=n:=by
 induction i with
 |zero=>rw[YO,Ar]
 |succ i a=>rw[YO,YE,a]
theorem I4(p q:List Rat)(n i k:Nat)(h:i=0\/i+q.length<=n+1):cf (YO p q n i) k=conv p q i k:=by
 induction i with
 |zero=>rw[YO,J3];rfl
 |succ i a=>
  rw[YO,LK _ _ _ _ _ (by rw[LL];omega),a om,GR];show _=conv p q i k+_
  dsimp only;split<;>grind
def YN(p q:List Rat)(n m:Nat):Nat->List Rat × List Rat
 |0=>(List.replicate m 0,p)
 |k+1=>
  let s:=YN p q n m k
  let i:=m-(k+1)
  let c:=cf s.2 (i+n)/cf q n
  (s.1.set i c,Y8 s.2 i (-c) q q.length)
theorem QF(p q:List Rat)(n m k:Nat):(YN p q n m k).1.length=m/\(YN p q n m k).2.length=p.length:=by
 induction k with
 |zero=>exact⟨Ar,rfl⟩
 |succ k a=>rw[YN];exact⟨by rw[Ct];exact a.1,by rw[YE];exact a.2⟩
theorem QG(p:List Rat)(i:Nat)(c:Rat)(x:Rat)(d:i<p.length)(b:cf p i=0):ev (p.set i c) x=ev p x+c*x^i:=by
 have e:∀k,cf (p.set i c) k=cf (EF p (Dg i [c])) k:=λk=>by
  rw[X1 _ _ _ _ d,Xf,GR];by_cases h:k=i
  . subst h;rw[BI rfl,BI (Aa _),b,A0,Yo];grind
  . rw[BE h];by_cases a:i<=k
    . rw[BI a,J4 (p:=[c]) si];grind
    . rw[BE a];grind
 rw[LH e,GA,I2];simp[ev];grind
theorem Mx(p q:List Rat)(n m:Nat)(u:q.length=n+1)(hl:cf q n≠0)(v:m+n=p.length):∀k,k<=m->
 (∀x,ev p x=ev q x*ev (YN p q n m k).1 x+ev (YN p q n m k).2 x)/\(∀j,j<m-k->cf (YN p q n m k).1 j=0)/\(∀j,m-k+n<=j->cf (YN p q n m k).2 j=0):=by
 intro k;induction k with
 |zero=>
  intro _;refine⟨λx=>?_,λj _=>J3 _ _,λj b=>J4 (by show p.length<=j;omega)⟩;rw[YN];dsimp only;rw[Iz (J3 m)];grind
 |succ k g=>
  intro z;obtain⟨o,e,f⟩:=g om;obtain⟨t,w⟩:=QF p q n m k;rw[YN];dsimp only;generalize hs:YN p q n m k=s at *;obtain⟨i,r⟩:=ex (m-(k+1));rw[r];obtain⟨c,d⟩:=ex (cf s.2 (i+n)/cf q n);rw[d];have a:i+q.length<=s.2.length:=om
  have y:c*cf q n=cf s.2 (i+n):=by rw[<-d];exact Rat.div_mul_cancel hl
  refine⟨λx=>?_,λj b=>?_,λj b=>?_⟩
  . rw[QG _ _ _ _ om (e i om),QE _ _ _ _ _ a,o x];grind
  . rw[X1 _ _ _ _ om,BE om];exact e j om
  . rw[LK _ _ _ _ _ a,GR,BI om];by_cases l:j=i+n
    . subst l;rw[show i+n-i=n from by omega];grind
    . rw[f j om,J4 (p:=q) om];grind
def IG(p q:List Rat):List Rat:=Jh (YN p q (q.length-1) (p.length-(q.length-1)) (p.length-(q.length-1))).1
def GS(p q:List Rat):List Rat:=Jh (YN p q (q.length-1) (p.length-(q.length-1)) (p.length-(q.length-1))).2
theorem QH(p q:List Rat)(b:Jh q=q)(a:q≠[]):(∀x,ev p x=ev q x*ev (IG p q) x+ev (GS p q) x)/\(GS p q).length<q.length/\Jh (IG p q)=IG p q/\Jh (GS p q)=GS p q:=by
 have c:0<q.length:=A3.2 a;refine⟨λx=>?_,?_,Y2 _,Y2 _⟩
 . unfold IG GS;rw[GP,GP];by_cases h:q.length-1<=p.length
   . exact(Mx p q (q.length-1) (p.length-(q.length-1)) om (Y3 b a) om _ (Aa _)).1 x
   . rw[show p.length-(q.length-1)=0 from by omega,YN];dsimp only;rw[Iz (J3 0)];grind
 . unfold GS;refine CM (LG (n:=q.length-1) λj d=>?_) om;by_cases h:q.length-1<=p.length
   . exact(Mx p q (q.length-1) (p.length-(q.length-1)) om (Y3 b a) om _ (Aa _)).2.2 j om
   . rw[show p.length-(q.length-1)=0 from by omega,YN];exact J4 (by dsimp only;omega)
def EP(p q:List Rat):List Rat:=Jh (EF p q)
def Ew(p q:List Rat):List Rat:=Jh (EF p (YJ (-1) q))
def Xh(p q:List Rat):List Rat:=Jh (Ed p q)
def XH(p:List Rat):List Rat:=Jh (I1 p)
theorem I5(p q:List Rat):Jh (EP p q)=EP p q:=Y2 _
theorem My(p q:List Rat):Jh (Ew p q)=Ew p q:=Y2 _
theorem Mz(p q:List Rat):Jh (Xh p q)=Xh p q:=Y2 _
theorem QI(p:List Rat):Jh (XH p)=XH p:=Y2 _
theorem QJ(p q:List Rat)(x:Rat):ev (EP p q) x=ev p x+ev q x:=by unfold EP;rw[GP,GA]
theorem QK(p q:List Rat)(x:Rat):ev (Ew p q) x=ev p x-ev q x:=by unfold Ew;rw[GP,GA,XG];grind
theorem M7(p q:List Rat)(x:Rat):ev (Xh p q) x=ev p x*ev q x:=by unfold Xh;rw[GP,Mw]
theorem I6(p q:List Rat)(i:Nat):cf (EP p q) i=cf p i+cf q i:=by unfold EP;rw[J9,Xf]
theorem M8(p q:List Rat)(i:Nat):cf (Ew p q) i=cf p i-cf q i:=by unfold Ew;rw[J9,Xf,Y4];grind
theorem QL(p q:List Rat):(EF p q).length=max p.length q.length:=by
 induction p generalizing q with
 |nil=>rw[EF];simp
 |cons c t a=>
  cases q with
  |nil=>rw[QB];simp
  |cons d s=>rw[EF,Aj,a,Aj,Aj];omega
theorem QM(p q:List Rat):(EP p q).length<=max p.length q.length:=by
 have:=Jz (EF p q);rw[QL]at this;exact this
def JW(a:Rat):List Rat:=[a,1]
def YF(a:Rat):List Rat->List Rat
 |[]=>[]
 |c::t=>EP (Xh (YF a t) (JW a)) (Jh [c])
theorem M9(a:Rat):Jh (JW a)=JW a:=Mt (Or.inr (by show cf [a,1] 1≠0;rw[J8,Yo];decide))
theorem QN(a:Rat)(p:List Rat):Jh (YF a p)=YF a p:=by
 cases p with
 |nil=>rfl
 |cons c t=>exact I5 _ _
