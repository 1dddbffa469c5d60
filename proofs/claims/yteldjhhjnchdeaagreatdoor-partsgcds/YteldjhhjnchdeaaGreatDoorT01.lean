import Derived.Test.YteldjhhjnchdeaaGreatDoorT00
set_option maxRecDepth 100000
set_option maxHeartbeats 16000000
namespace Go.Proofs.YteldjhhjnchdeaaGreatDoor
theorem Bz:type_of% @List.getElem?_eq_getElem:=@List.getElem?_eq_getElem
theorem BG:type_of% @if_pos:=@if_pos
theorem BC:type_of% @if_neg:=@if_neg
def cf(p:List Rat)(i:Nat):Rat:=p[i]?.getD 0
variable{p q:List Rat}{i k n:Nat}{f:Nat->Rat}
theorem YQ(i:Nat):cf [] i=0:=by simp[cf]
theorem Xl(c:Rat)(t:List Rat):cf (c::t) 0=c:=by simp[cf]
theorem YF(c:Rat)(t:List Rat)(i:Nat):cf (c::t) (i+1)=cf t i:=by simp[cf]
theorem J4(h:p.length<=i):cf p i=0:=by simp[cf,List.getElem?_eq_none h]
theorem TL(h:i<p.length):cf p i=p[i]:=by simp[cf,List.getElem?_eq_getElem h]
theorem Mq(p:List Rat)(c:Rat)(i:Nat):cf (p++[c]) i=if i=p.length then c else cf p i:=by
 unfold cf;by_cases h:i<p.length
 . rw[AJ h,BC om]
 . rw[AB om];by_cases a:i=p.length
   . rw[BG a,a];simp
   . rw[BC a,At si,At om]
theorem Xy(p:List Rat)(k:Nat)(c:Rat)(i:Nat)(a:k<p.length):cf (p.set k c) i=if i=k then c else cf p i:=by
 unfold cf;by_cases h:i=k
 . subst h;rw[BG rfl,A6 a];rfl
 . rw[BC h,AW (λe=>h e.symm)]
theorem JN(n:Nat)(i:Nat):cf (List.replicate n 0) i=0:=by
 unfold cf;rw[List.getElem?_replicate];split<;>rfl
theorem LQ(n:Nat)(f:Nat->Rat)(i:Nat):cf ((List.range n).map f) i=if i<n then f i else 0:=by
 unfold cf;rw[CT];by_cases h:i<n
 . rw[List.getElem?_range h,BG h];rfl
 . rw[At si,BC h];rfl
theorem Mr(p:List Rat)(n i:Nat):cf (p.take n) i=if i<n then cf p i else 0:=by
 unfold cf;rw[Fq];split<;>rfl
def Jd:List Rat->List Rat
 |[]=>[]
 |c::t=>match Jd t with
  |[]=>if c=0 then []else [c]
  |d::s=>c::d::s
theorem JX(p:List Rat)(i:Nat):cf (Jd p) i=cf p i:=by
 induction p generalizing i with
 |nil=>rfl
 |cons c t b=>
  have a:=b;rw[Jd];split
  . rename_i h;rw[h]at a;cases i with
    |zero=>split<;>simp_all [cf]
    |succ i=>
     rw[YF,<-a i,YQ];split
     . rfl
     . rw[YF,YQ]
  . rename_i d s h;rw[<-h];cases i with
    |zero=>rfl
    |succ i=>rw[YF,YF,a]
theorem LR(h:∀i,cf p i=0):Jd p=[]:=by
 induction p with
 |nil=>rfl
 |cons c t b=>
  have a:=b (λi=>by rw[<-YF c t i];exact h (i+1));have d:c=0:=by rw[<-Xl c t];exact h 0
  rw[Jd,a];show(if c=0 then []else [c])=[];rw[BG d]
theorem YM(h:∀i,cf p i=cf q i):Jd p=Jd q:=by
 induction p generalizing q with
 |nil=>rw[LR (p:=q) (λi=>by rw[<-h i,YQ])];rfl
 |cons c t b=>
  cases q with
  |nil=>rw[LR (p:=c::t) (λi=>by rw[h i,YQ])];rfl
  |cons d s=>
   have a:c=d:=by have:=h 0;rwa[Xl,Xl]at this
   have e:=b (q:=s) (λi=>by have:=h (i+1);rwa[YF,YF]at this);rw[Jd,Jd,a,e]
theorem Yj(p:List Rat):Jd (Jd p)=Jd p:=YM (JX p)
theorem JB(p:List Rat):(Jd p).length<=p.length:=by
 induction p with
 |nil=>exact Aa _
 |cons c t a=>
  rw[Jd];split
  . split<;>simp
  . rename_i d s h;rw[h]at a;simp only[Am]at a ⊢;omega
theorem JF(h:Jd p=p)(f:p≠[]):cf p (p.length-1)≠0:=by
 induction p with
 |nil=>exact absurd rfl f
 |cons c t g=>
  rw[Jd]at h;split at h
  . rename_i b;split at h
    . cases h
    . rename_i a;simp only[Fw,true_and]at h;subst h;simpa[cf]using a
  . rename_i d s b;simp only[Fw,true_and]at h;have a:Jd t=t:=by rw[b,h]
    have i:=g a (by rw[<-h];simp);have e:(c::t).length-1=(t.length-1)+1:=by rw[<-h];simp
    rw[e,YF];exact i
theorem TM(h:p=[]\/cf p (p.length-1)≠0):Jd p=p:=by
 induction p with
 |nil=>rfl
 |cons c t a=>
  rcases h with h|h
  . cases h
  . cases t with
    |nil=>rw[Jd];show(if c=0 then []else [c])=[c];rw[BC (by simpa[cf]using h)]
    |cons d s=>
     have e:(c::d::s).length-1=((d::s).length-1)+1:=DQ
     rw[e,YF]at h;rw[Jd,a (Or.inr h)]
theorem Ow(c:n<=p.length)(a:n=0\/cf p (n-1)≠0)(d:∀j,n<=j->cf p j=0):Jd p=p.take n:=by
 have e:Jd p=Jd (p.take n):=YM λi=>by
  rw[Mr];split
  . rfl
  . exact d i om
 rw[e];refine TM ?_;rcases a with a|a
 . left;rw[a];rfl
 . by_cases b:n=0
   . left;rw[b];rfl
   . right
     rw[Al,CC c,Mr,BG om];exact a
theorem Ms(h:∀j,n<=j->cf p j=0):(Jd p).length<=n:=by
 rcases AO n (Jd p).length with a|a
 . have b:=JF (Yj p) (by intro c;rw[c]at a;simp at a);rw[JX]at b;exact absurd (h _ om) b
 . exact a
def ev:List Rat->Rat->Rat
 |[],_=>0
 |c::t,x=>c+x*ev t x
theorem LS(h:∀i,cf p i=0)(x:Rat):ev p x=0:=by
 induction p with
 |nil=>rfl
 |cons c t b=>
  have a:=b (λi=>by rw[<-YF c t i];exact h (i+1));have d:c=0:=by rw[<-Xl c t];exact h 0
  rw[ev,a,d];grind
theorem Mt(h:∀i,cf p i=cf q i)(x:Rat):ev p x=ev q x:=by
 induction p generalizing q with
 |nil=>rw[LS (p:=q) (λi=>by rw[<-h i,YQ])];rfl
 |cons c t b=>
  cases q with
  |nil=>rw[LS (p:=c::t) (λi=>by rw[h i,YQ])];rfl
  |cons d s=>
   have a:c=d:=by have:=h 0;rwa[Xl,Xl]at this
   have e:=b (q:=s) (λi=>by have:=h (i+1);rwa[YF,YF]at this);rw[ev,ev,a,e]
theorem Hh(p:List Rat)(x:Rat):ev (Jd p) x=ev p x:=Mt (JX p) x
def dv:List Rat->Rat->Rat
 |[],_=>0
 |_::t,x=>ev t x+x*dv t x
def Hi:List Rat->Rat->List Rat
 |[],_=>[]
 |_::t,a=>match t with
  |[]=>[]
  |d::s=>ev (d::s) a::Hi (d::s) a
theorem TN(p:List Rat)(a:Rat):(Hi p a).length=p.length-1:=by
 induction p with
 |nil=>rfl
 |cons c t b=>
  cases t with
  |nil=>rfl
  |cons d s=>
   rw[Hi,Am,b];simp
theorem Ox(p:List Rat)(a x:Rat):ev p x=ev p a+(x-a)*ev (Hi p a) x:=by
 induction p with
 |nil=>simp[ev,Hi];grind
 |cons c t b=>
  cases t with
  |nil=>simp[ev,Hi];grind
  |cons d s=>
   rw[Hi];generalize hq:d::s=q at *;rw[ev,ev,ev,b];grind
theorem TO{m:Nat}(h:∀n:Nat,m<=n->ev p (n:Rat)=0)(x:Rat):ev p x=0:=by
 obtain⟨k,d⟩:=ex (p.length);induction k generalizing p m with
 |zero=>
  have:p=[]:=Ap d;rw[this];rfl
 |succ k g=>
  have c:=h m (Aa _);have e:∀n:Nat,m+1<=n->ev (Hi p m) (n:Rat)=0:=λn o=>by
   have b:=Ox p (m:Rat) (n:Rat);rw[h n om,c]at b;have j:((n:Rat)-(m:Rat))≠0:=by
    intro l;have f:(n:Rat)=(m:Rat):=by grind
    have:=Rat.natCast_inj.1 f;omega
   have i:((n:Rat)-(m:Rat))*ev (Hi p m) n=0:=by grind
   rcases FS.1 i with a|a
   . exact absurd a j
   . exact a
  have b:=g e (by rw[TN,d];rfl);rw[Ox p (m:Rat) x,c,b];grind
theorem TR(h:∀x,ev p x=0)(i:Nat):cf p i=0:=by
 induction p generalizing i with
 |nil=>rfl
 |cons c t j=>
  have b:c=0:=by have:=h 0;rw[ev]at this;grind
  have d:∀x,ev t x=0:=λx=>TO (m:=1) (λn o=>by
   have f:=h (n:Rat);rw[ev,b]at f;have l:(n:Rat)≠0:=λe=>by
    have g:(n:Rat)=((0:Nat):Rat):=e;have:=Rat.natCast_inj.1 g;omega
   have k:(n:Rat)*ev t n=0:=by grind
   rcases FS.1 k with a|a
   . exact absurd a l
   . exact a) x
  cases i with
  |zero=>rw[Xl];exact b
  |succ i=>rw[YF];exact j d i
def Eb:List Rat->List Rat->List Rat
 |[],q=>q
 |p,[]=>p
 |c::t,d::s=>(c+d)::Eb t s
def YH(a:Rat)(p:List Rat):List Rat:=p.map (λc=>c*a)
def FW:List Rat->List Rat->List Rat
 |[],_=>[]
 |c::t,q=>Eb (YH c q) (0::FW t q)
theorem Xw(p q:List Rat)(i:Nat):cf (Eb p q) i=cf p i+cf q i:=by
 induction p generalizing q i with
 |nil=>rw[Eb,YQ];grind
 |cons c t a=>
  cases q with
  |nil=>
   rw[Eb,YQ]
   . grind
   . intro h;cases h
  |cons d s=>
   rw[Eb];cases i with
   |zero=>simp[cf]
   |succ i=>rw[YF,YF,YF,a]
theorem Y5(a:Rat)(p:List Rat)(i:Nat):cf (YH a p) i=cf p i*a:=by
 unfold cf YH;rw[CT];cases p[i]? with
 |none=>simp
 |some c=>rfl
theorem H7(p q:List Rat)(x:Rat):ev (Eb p q) x=ev p x+ev q x:=by
 induction p generalizing q with
 |nil=>rw[Eb,ev];grind
 |cons c t a=>
  cases q with
  |nil=>
   rw[Eb]
   . rw[show ev [] x=0 from rfl];grind
   . intro h;cases h
  |cons d s=>rw[Eb,ev,ev,ev,a];grind
theorem XG(a:Rat)(p:List Rat)(x:Rat):ev (YH a p) x=ev p x*a:=by
 induction p with
 |nil=>simp[YH,ev]
 |cons c t b=>
  rw[show YH a (c::t)=(c*a)::YH a t from rfl,ev,ev,b];grind
theorem Oy(p q:List Rat)(x:Rat):ev (FW p q) x=ev p x*ev q x:=by
 induction p with
 |nil=>rw[FW,ev];grind
 |cons c t a=>rw[FW,H7,XG,ev,ev,a];grind
theorem Kc(h:∀x,ev p x=ev q x):Jd p=Jd q:=by
 have a:∀i,cf (Eb p (YH (-1) q)) i=0:=TR (λx=>by rw[H7,XG,h x];grind);refine YM λi=>?_;have:=a i;rw[Xw,Y5]at this;grind
def sumN:Nat->(Nat->Rat)->Rat
 |0,_=>0
 |n+1,f=>sumN n f+f n
theorem TS{g:Nat->Rat}(h:∀k,k<n->f k=g k):sumN n f=sumN n g:=by
 induction n with
 |zero=>rfl
 |succ n a=>rw[sumN,sumN,a (λk b=>h k om),h n om]
theorem Mu(h:∀k,k<n->f k=0):sumN n f=0:=by
 induction n with
 |zero=>rfl
 |succ n a=>rw[sumN,a (λk b=>h k om),h n om];grind
theorem TT(n:Nat)(f:Nat->Rat):sumN (n+1) f=f 0+sumN n (λk=>f (k+1)):=by
 induction n with
 |zero=>simp[sumN];grind
 |succ n a=>rw[sumN,a,sumN];grind
def conv(p q:List Rat)(n k:Nat):Rat:=sumN n (λi=>if i<=k then cf p i*cf q (k-i)else 0)
theorem IU(p q:List Rat)(k:Nat):cf (FW p q) k=conv p q p.length k:=by
 induction p generalizing k with
 |nil=>rfl
 |cons c t b=>
  rw[FW,Xw,Y5,conv,Am,TT];rw[BG (AK _),Xl,Fc];have e:cf (0::FW t q) k=sumN t.length (λi=>if i+1<=k then cf (c::t) (i+1)*cf q (k-(i+1))else 0):=by
   cases k with
   |zero=>
    rw[Xl,Mu];intro i a;rw[BC om]
   |succ k=>
    rw[YF,b,conv];refine TS λi a=>?_;by_cases h:i<=k
    . rw[BG h,BG om,YF,show k+1-(i+1)=k-i from by omega]
    . rw[BC h,BC om]
  rw[e];grind
theorem Oz(p q:List Rat)(h:p.length<=n):conv p q n k=conv p q p.length k:=by
 induction n with
 |zero=>rw[show p.length=0 from by omega]
 |succ n b=>
  by_cases a:p.length=n+1
  . rw[a]
  . rw[<-b om];show conv p q n k+_=_
    dsimp only;rw[J4 (show p.length<=n from by omega)];split<;>grind
theorem TU(p q:List Rat)(h:k+1<=n):conv p q n k=conv p q (k+1) k:=by
 induction n with
 |zero=>omega
 |succ n b=>
  by_cases a:k+1=n+1
  . rw[a]
  . rw[<-b om];show conv p q n k+_=_
    dsimp only;rw[BC om];grind
theorem TV(h:p.length+q.length<=k+1):cf (FW p q) k=0:=by
 rw[IU];refine Mu λi a=>?_;split
 . rw[J4 (p:=q) om];grind
 . rfl
theorem TW(p q:List Rat)(m n:Nat)(hp:p.length=m+1)(hq:q.length=n+1):cf (FW p q) (m+n)=cf p m*cf q n:=by
 rw[IU,hp,conv,sumN,BG om,show m+n-m=n from by omega];rw[Mu]
 . grind
 . intro i a;split
   . rw[J4 (p:=q) om];grind
   . rfl
theorem O0(hp:Jd p=p)(hq:Jd q=q)(c:p≠[])(e:q≠[]):(Jd (FW p q)).length=p.length+q.length-1:=by
 have f:=JF hp c;have g:=JF hq e;have l1:0<p.length:=Aq.2 c;have l2:0<q.length:=Aq.2 e;have i:=TW p q (p.length-1) (q.length-1) om om;have b:cf (FW p q) (p.length-1+(q.length-1))≠0:=by
  rw[i];intro d;rcases FS.1 d with a|a
  . exact f a
  . exact g a
 have d:(Jd (FW p q)).length<=p.length+q.length-1:=Ms λj k=>TV om;rcases AO (Jd (FW p q)).length (p.length+q.length-1)with a|a
 . rw[<-JX]at b;exact absurd (J4 om) b
 . omega
def LT(p:List Rat):List Rat:=(List.range (p.length-1)).map (λi=>cf p (i+1)*((i+1:Nat):Rat))
theorem Mv(p:List Rat)(i:Nat):cf (LT p) i=cf p (i+1)*((i+1:Nat):Rat):=by
 unfold LT;rw[LQ];split
 . rfl
 . rw[J4 om];grind
theorem TY(p:List Rat):Eb p []=p:=by cases p<;>rfl
theorem O1{u v a b:List Rat}(hq:Jd q=q)(k:q≠[])(y:Jd u=u)(l:Jd a=a)(w:Jd v=v)(p:Jd b=b)(C:v.length<q.length)(B:b.length<q.length)
(h:∀x,ev q x*ev u x+ev v x=ev q x*ev a x+ev b x):u=a/\v=b:=by
 obtain⟨d,e⟩:=ex (Jd (Eb u (YH (-1) a)));have o:Jd d=d:=by rw[<-e,Yj]
 have f:∀x,ev d x=ev u x-ev a x:=λx=>by rw[<-e,Hh,H7,XG];grind
 have t:∀x,ev (FW d q) x=ev (Eb b (YH (-1) v)) x:=λx=>by
  rw[Oy,H7,XG,f];have:=h x;grind
 have m:=Kc t;have D:(Jd (Eb b (YH (-1) v))).length<q.length:=by
  refine Cs (Ms (n:=q.length-1) λj z=>?_) om;rw[Xw,Y5,J4 om,J4 om];grind
 have i:d=[]:=by
  by_cases c:d=[]
  . exact c
  . have s:=O0 o hq c k;have A:0<d.length:=Aq.2 c;rw[m]at s;omega
 have r:∀x,ev u x=ev a x:=λx=>by
  have:=f x;rw[i,show ev [] x=0 from rfl]at this;grind
 have g:u=a:=by rw[<-y,<-l];exact Kc r
 refine⟨g,?_⟩;rw[<-w,<-p];exact Kc λx=>by
  have:=h x;rw[g]at this;grind
def Dn(i:Nat)(q:List Rat):List Rat:=List.replicate i 0++q
theorem IV(i:Nat)(q:List Rat)(k:Nat):cf (Dn i q) k=if i<=k then cf q (k-i)else 0:=by
 unfold cf Dn;by_cases h:k<i
 . rw[AJ (by simpa using h),BC om,List.getElem?_replicate];split<;>rfl
 . rw[AB si,BG om];simp
theorem LU(i:Nat)(q:List Rat)(x:Rat):ev (Dn i q) x=x^i*ev q x:=by
 induction i with
 |zero=>rw[show Dn 0 q=q from rfl];grind
 |succ i a=>
  rw[show Dn (i+1) q=0::Dn i q from rfl,ev,a];grind
def YB(z:List Rat)(i:Nat)(a:Rat)(q:List Rat):Nat->List Rat
 |0=>z
 |j+1=>(YB z i a q j).set (i+j) (cf (YB z i a q j) (i+j)+a*cf q j)
theorem Yr(z:List Rat)(i:Nat)(a:Rat)(q:List Rat)(j:Nat):(YB z i a q j).length=z.length:=by
 induction j with
 |zero=>rfl
 |succ j b=>rw[YB,Cq,b]
theorem TZ(z:List Rat)(i:Nat)(a:Rat)(q:List Rat)(j k:Nat)(h:i+j<=z.length):cf (YB z i a q j) k=cf z k+(if i<=k/\k<i+j then a*cf q (k-i)else 0):=by
 induction j with
 |zero=>rw[YB,BC om];grind
 |succ j b=>
  have b:=b om;rw[YB,Xy _ _ _ _ (by rw[Yr];omega)];by_cases c:k=i+j
  . subst c;rw[BG rfl,b,BC om,BG om,show i+j-i=j from by omega];grind
  . rw[BC c,b];by_cases d:i<=k/\k<i+j
    . rw[BG d,BG om]
    . rw[BC d,BC om]
theorem Mw(z:List Rat)(i:Nat)(a:Rat)(q:List Rat)(k:Nat)(h:i+q.length<=z.length):cf (YB z i a q q.length) k=cf z k+a*cf (Dn i q) k:=by
 rw[TZ _ _ _ _ _ _ h,IV];by_cases b:i<=k
 . by_cases c:k<i+q.length
   . rw[BG ⟨b,c⟩,BG b]
   . rw[BC om,BG b,J4 (p:=q) om];grind
 . rw[BC om,BC b];grind
theorem Ta(z:List Rat)(i:Nat)(a:Rat)(q:List Rat)(x:Rat)(h:i+q.length<=z.length):ev (YB z i a q q.length) x=ev z x+a*(x^i*ev q x):=by
 have e:∀k,cf (YB z i a q q.length) k=cf (Eb z (YH a (Dn i q))) k:=λk=>by
  rw[Mw _ _ _ _ _ h,Xw,Y5];grind
 rw[Mt e,H7,XG,LU];grind
def Yv(p q:List Rat)(n:Nat):Nat->List Rat
 |0=>List.replicate n 0
 |i+1=>YB (Yv p q n i) i (cf p i) q q.length
theorem Mx(p q:List Rat)(n i:Nat):(Yv p q n i).length=n:=by
 induction i with
 |zero=>rw[Yv,Au]
 |succ i a=>rw[Yv,Yr,a]
theorem My(p q:List Rat)(n i k:Nat)(h:i=0\/i+q.length<=n+1):cf (Yv p q n i) k=conv p q i k:=by
 induction i with
 |zero=>rw[Yv,JN];rfl
 |succ i a=>
  rw[Yv,Mw _ _ _ _ _ (by rw[Mx];omega),a om,IV];show _=conv p q i k+_
  dsimp only;split<;>grind
def JD(p q:List Rat)(n m:Nat):Nat->List Rat × List Rat
 |0=>(List.replicate m 0,p)
 |k+1=>
  let s:=JD p q n m k
  let i:=m-(k+1)
  let c:=cf s.2 (i+n)/cf q n
  (s.1.set i c,YB s.2 i (-c) q q.length)
theorem Xd(p q:List Rat)(n m k:Nat):(JD p q n m k).1.length=m/\(JD p q n m k).2.length=p.length:=by
 induction k with
 |zero=>exact⟨Au,rfl⟩
 |succ k a=>rw[JD];exact⟨by rw[Cq];exact a.1,by rw[Yr];exact a.2⟩
theorem Tb(p:List Rat)(i:Nat)(c:Rat)(x:Rat)(d:i<p.length)(b:cf p i=0):ev (p.set i c) x=ev p x+c*x^i:=by
 have e:∀k,cf (p.set i c) k=cf (Eb p (Dn i [c])) k:=λk=>by
  rw[Xy _ _ _ _ d,Xw,IV];by_cases h:k=i
  . subst h;rw[BG rfl,BG (Aa _),b,A3,Xl];grind
  . rw[BC h];by_cases a:i<=k
    . rw[BG a,J4 (p:=[c]) si];grind
    . rw[BC a];grind
 rw[Mt e,H7,LU];simp[ev];grind
theorem O2(p q:List Rat)(n m:Nat)(hq:q.length=n+1)(hl:cf q n≠0)(u:m+n=p.length):∀k,k<=m->
 (∀x,ev p x=ev q x*ev (JD p q n m k).1 x+ev (JD p q n m k).2 x)/\(∀j,j<m-k->cf (JD p q n m k).1 j=0)/\(∀j,m-k+n<=j->cf (JD p q n m k).2 j=0):=by
 intro k;induction k with
 |zero=>
  intro _;refine⟨λx=>?_,λj _=>JN _ _,λj a=>J4 (by show p.length<=j;omega)⟩;rw[JD];dsimp only;rw[LS (JN m)];grind
 |succ k o=>
  intro v;obtain⟨f,e,r⟩:=o om;obtain⟨l1,l2⟩:=Xd p q n m k;rw[JD];dsimp only;generalize hs:JD p q n m k=s at *;obtain⟨i,g⟩:=ex (m-(k+1));rw[g];obtain⟨c,d⟩:=ex (cf s.2 (i+n)/cf q n);rw[d];have b:i+q.length<=s.2.length:=om
  have t:c*cf q n=cf s.2 (i+n):=by rw[<-d];exact Ct hl
  refine⟨λx=>?_,λj a=>?_,λj a=>?_⟩
  . rw[Tb _ _ _ _ om (e i om),Ta _ _ _ _ _ b,f x];grind
  . rw[Xy _ _ _ _ om,BC om];exact e j om
  . rw[Mw _ _ _ _ _ b,IV,BG om];by_cases l:j=i+n
    . subst l;rw[show i+n-i=n from by omega];grind
    . rw[r j om,J4 (p:=q) om];grind
def Y8(p q:List Rat):List Rat:=Jd (JD p q (q.length-1) (p.length-(q.length-1)) (p.length-(q.length-1))).1
def J3(p q:List Rat):List Rat:=Jd (JD p q (q.length-1) (p.length-(q.length-1)) (p.length-(q.length-1))).2
theorem YN(p q:List Rat)(hq:Jd q=q)(a:q≠[]):(∀x,ev p x=ev q x*ev (Y8 p q) x+ev (J3 p q) x)/\(J3 p q).length<q.length/\Jd (Y8 p q)=Y8 p q/\Jd (J3 p q)=J3 p q:=by
 have l1:0<q.length:=Aq.2 a;refine⟨λx=>?_,?_,Yj _,Yj _⟩
 . unfold Y8 J3;rw[Hh,Hh];by_cases h:q.length-1<=p.length
   . exact(O2 p q (q.length-1) (p.length-(q.length-1)) om (JF hq a) om _ (Aa _)).1 x
   . rw[show p.length-(q.length-1)=0 from by omega,JD];dsimp only;rw[LS (JN 0)];grind
 . unfold J3;refine Cs (Ms (n:=q.length-1) λj b=>?_) om;by_cases h:q.length-1<=p.length
   . exact(O2 p q (q.length-1) (p.length-(q.length-1)) om (JF hq a) om _ (Aa _)).2.2 j om
   . rw[show p.length-(q.length-1)=0 from by omega,JD];exact J4 (by dsimp only;omega)
def EX(p q:List Rat):List Rat:=Jd (Eb p q)
def J2(p q:List Rat):List Rat:=Jd (Eb p (YH (-1) q))
def JR(p q:List Rat):List Rat:=Jd (FW p q)
def Jm(p:List Rat):List Rat:=Jd (LT p)
theorem IW(p q:List Rat):Jd (EX p q)=EX p q:=Yj _
theorem Iz(p q:List Rat):Jd (J2 p q)=J2 p q:=Yj _
theorem XH(p q:List Rat):Jd (JR p q)=JR p q:=Yj _
theorem O3(p:List Rat):Jd (Jm p)=Jm p:=Yj _
theorem LV(p q:List Rat)(x:Rat):ev (EX p q) x=ev p x+ev q x:=by unfold EX;rw[Hh,H7]
theorem Mz(p q:List Rat)(x:Rat):ev (J2 p q) x=ev p x-ev q x:=by unfold J2;rw[Hh,H7,XG];grind
theorem XR(p q:List Rat)(x:Rat):ev (JR p q) x=ev p x*ev q x:=by unfold JR;rw[Hh,Oy]
theorem O4(p q:List Rat)(i:Nat):cf (EX p q) i=cf p i+cf q i:=by unfold EX;rw[JX,Xw]
theorem Kd(p q:List Rat)(i:Nat):cf (J2 p q) i=cf p i-cf q i:=by unfold J2;rw[JX,Xw,Y5];grind
theorem Tc(p q:List Rat):(Eb p q).length=max p.length q.length:=by
 induction p generalizing q with
 |nil=>rw[Eb];simp
 |cons c t a=>
  cases q with
  |nil=>rw[TY];simp
  |cons d s=>rw[Eb,Am,a,Am,Am];omega
theorem Td(p q:List Rat):(EX p q).length<=max p.length q.length:=by
 have:=JB (Eb p q);rw[Tc]at this;exact this
theorem IX(hp:Jd p=p)(hq:Jd q=q)(h:∀x,ev p x=ev q x):p=q:=by rw[<-hp,<-hq];exact Kc h
