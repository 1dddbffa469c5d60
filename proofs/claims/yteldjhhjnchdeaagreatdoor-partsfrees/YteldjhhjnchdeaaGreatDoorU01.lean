import Derived.Test.YteldjhhjnchdeaaGreatDoorU00
set_option maxRecDepth 100000
set_option maxHeartbeats 16000000
namespace Go.Proofs.YteldjhhjnchdeaaGreatDoor
theorem Bz:type_of% @List.getElem?_eq_getElem:=@List.getElem?_eq_getElem
theorem BG:type_of% @if_pos:=@if_pos
theorem BE:type_of% @if_neg:=@if_neg
def cf(p:List Rat)(i:Nat):Rat:=p[i]?.getD 0
variable{p q:List Rat}{i k n:Nat}{f:Nat->Rat}
theorem Yw(i:Nat):cf [] i=0:=by simp[cf]
theorem Y1(c:Rat)(t:List Rat):cf (c::t) 0=c:=by simp[cf]
theorem Yh(c:Rat)(t:List Rat)(i:Nat):cf (c::t) (i+1)=cf t i:=by simp[cf]
theorem J1(h:p.length<=i):cf p i=0:=by simp[cf,List.getElem?_eq_none h]
theorem TR(h:i<p.length):cf p i=p[i]:=by simp[cf,List.getElem?_eq_getElem h]
theorem Mo(p:List Rat)(c:Rat)(i:Nat):cf (p++[c]) i=if i=p.length then c else cf p i:=by
 unfold cf;by_cases h:i<p.length
 . rw[AJ h,BE J]
 . rw[AC J];by_cases a:i=p.length
   . rw[BG a,a];simp
   . rw[BE a,At si,At J]
theorem XG(p:List Rat)(k:Nat)(c:Rat)(i:Nat)(a:k<p.length):cf (p.set k c) i=if i=k then c else cf p i:=by
 unfold cf;by_cases h:i=k
 . subst h;rw[BG rfl,A6 a];rfl
 . rw[BE h,AW λe=>h e.symm]
theorem JQ(n:Nat)(i:Nat):cf (List.replicate n 0) i=0:=by
 unfold cf;rw[List.getElem?_replicate];split<;>rfl
theorem LL(n:Nat)(f:Nat->Rat)(i:Nat):cf ((List.range n).map f) i=if i<n then f i else 0:=by
 unfold cf;rw[CU];by_cases h:i<n
 . rw[List.getElem?_range h,BG h];rfl
 . rw[At si,BE h];rfl
theorem Mp(p:List Rat)(n i:Nat):cf (p.take n) i=if i<n then cf p i else 0:=by
 unfold cf;rw[Fs];split<;>rfl
def Jd:List Rat->List Rat
 |[]=>[]
 |c::t=>match Jd t with
  |[]=>if c=0 then []else [c]
  |d::s=>c::d::s
theorem JR(p:List Rat)(i:Nat):cf (Jd p) i=cf p i:=by
 induction p generalizing i with
 |nil=>rfl
 |cons c t b=>
  have a:=b;rw[Jd];split
  . rename_i h;rw[h]at a;cases i with
    |zero=>split<;>simp_all [cf]
    |succ i=>
     rw[Yh,<-a i,Yw];split
     . rfl
     . rw[Yh,Yw]
  . rename_i d s h;rw[<-h];cases i with
    |zero=>rfl
    |succ i=>rw[Yh,Yh,a]
theorem LM(h:∀i,cf p i=0):Jd p=[]:=by
 induction p with
 |nil=>rfl
 |cons c t d=>
  have a:=d (λi=>by rw[<-Yh c t i];exact h (i+1));have b:c=0:=by rw[<-Y1 c t];exact h 0
  rw[Jd,a];show(if c=0 then []else [c])=[];rw[BG b]
theorem YH(h:∀i,cf p i=cf q i):Jd p=Jd q:=by
 induction p generalizing q with
 |nil=>rw[LM (p:=q) λi=>by rw[<-h i,Yw]];rfl
 |cons c t e=>
  cases q with
  |nil=>rw[LM (p:=c::t) λi=>by rw[h i,Yw]];rfl
  |cons d s=>
   have a:c=d:=by have:=h 0;rwa[Y1,Y1]at this
   have b:=e (q:=s) (λi=>by have:=h (i+1);rwa[Yh,Yh]at this);rw[Jd,Jd,a,b]
theorem Yj(p:List Rat):Jd (Jd p)=Jd p:=YH (JR p)
theorem J3(p:List Rat):(Jd p).length<=p.length:=by
 induction p with
 |nil=>exact Aa _
 |cons c t a=>
  rw[Jd];split
  . split<;>simp
  . rename_i d s h;rw[h]at a;simp only[An]at a ⊢;omega
theorem JA(h:Jd p=p)(f:p≠[]):cf p (p.length-1)≠0:=by
 induction p with
 |nil=>exact absurd rfl f
 |cons c t i=>
  rw[Jd]at h;split at h
  . rename_i b;split at h
    . cases h
    . rename_i a;simp only[Fx,true_and]at h;subst h;simpa[cf]using a
  . rename_i d s b;simp only[Fx,true_and]at h;have a:Jd t=t:=by rw[b,h]
    have g:=i a (by rw[<-h];simp);have e:(c::t).length-1=(t.length-1)+1:=by rw[<-h];simp
    rw[e,Yh];exact g
theorem TS(h:p=[]\/cf p (p.length-1)≠0):Jd p=p:=by
 induction p with
 |nil=>rfl
 |cons c t a=>
  rcases h with h|h
  . cases h
  . cases t with
    |nil=>rw[Jd];show(if c=0 then []else [c])=[c];rw[BE (by simpa[cf]using h)]
    |cons d s=>
     have e:(c::d::s).length-1=((d::s).length-1)+1:=Y
     rw[e,Yh]at h;rw[Jd,a (Or.inr h)]
theorem Oq(d:n<=p.length)(a:n=0\/cf p (n-1)≠0)(c:∀j,n<=j->cf p j=0):Jd p=p.take n:=by
 have e:Jd p=Jd (p.take n):=YH λi=>by
  rw[Mp];split
  . rfl
  . exact c i J
 rw[e];refine TS ?_;rcases a with a|a
 . left;rw[a];rfl
 . by_cases b:n=0
   . left;rw[b];rfl
   . right
     rw[Am,CF d,Mp,BG J];exact a
theorem Mq(h:∀j,n<=j->cf p j=0):(Jd p).length<=n:=by
 rcases AO n (Jd p).length with a|a
 . have b:=JA (Yj p) (by intro c;rw[c]at a;simp at a);rw[JR]at b;exact absurd (h _ J) b
 . exact a
def ev:List Rat->Rat->Rat
 |[],_=>0
 |c::t,x=>c+x*ev t x
theorem Kd(h:∀i,cf p i=0)(x:Rat):ev p x=0:=by
 induction p with
 |nil=>rfl
 |cons c t d=>
  have a:=d (λi=>by rw[<-Yh c t i];exact h (i+1));have b:c=0:=by rw[<-Y1 c t];exact h 0
  rw[ev,a,b];grind
theorem Ke(h:∀i,cf p i=cf q i)(x:Rat):ev p x=ev q x:=by
 induction p generalizing q with
 |nil=>rw[Kd (p:=q) λi=>by rw[<-h i,Yw]];rfl
 |cons c t e=>
  cases q with
  |nil=>rw[Kd (p:=c::t) λi=>by rw[h i,Yw]];rfl
  |cons d s=>
   have a:c=d:=by have:=h 0;rwa[Y1,Y1]at this
   have b:=e (q:=s) (λi=>by have:=h (i+1);rwa[Yh,Yh]at this);rw[ev,ev,a,b]
theorem XE(p:List Rat)(x:Rat):ev (Jd p) x=ev p x:=Ke (JR p) x
def dv:List Rat->Rat->Rat
 |[],_=>0
 |_::t,x=>ev t x+x*dv t x
theorem Ot(h:∀i,cf p i=0)(x:Rat):dv p x=0:=by
 induction p with
 |nil=>rfl
 |cons c t b=>
  have a:∀i,cf t i=0:=λi=>by rw[<-Yh c t i];exact h (i+1)
  rw[dv,b a,Kd a];grind
theorem TT(h:∀i,cf p i=cf q i)(x:Rat):dv p x=dv q x:=by
 induction p generalizing q with
 |nil=>rw[Ot (p:=q) λi=>by rw[<-h i,Yw]];rfl
 |cons c t b=>
  cases q with
  |nil=>rw[Ot (p:=c::t) λi=>by rw[h i,Yw]];rfl
  |cons d s=>
   have a:∀i,cf t i=cf s i:=λi=>by have:=h (i+1);rwa[Yh,Yh]at this
   rw[dv,dv,b a,Ke a]
def Hi:List Rat->Rat->List Rat
 |[],_=>[]
 |_::t,a=>match t with
  |[]=>[]
  |d::s=>ev (d::s) a::Hi (d::s) a
theorem TU(p:List Rat)(a:Rat):(Hi p a).length=p.length-1:=by
 induction p with
 |nil=>rfl
 |cons c t b=>
  cases t with
  |nil=>rfl
  |cons d s=>
   rw[Hi,An,b];simp
theorem Ou(p:List Rat)(a x:Rat):ev p x=ev p a+(x-a)*ev (Hi p a) x:=by
 induction p with
 |nil=>simp[ev,Hi];grind
 |cons c t b=>
  cases t with
  |nil=>simp[ev,Hi];grind
  |cons d s=>
   rw[Hi];generalize hq:d::s=q at *;rw[ev,ev,ev,b];grind
theorem TV{m:Nat}(h:∀n:Nat,m<=n->ev p (n:Rat)=0)(x:Rat):ev p x=0:=by
 obtain⟨k,d⟩:=ex (p.length);induction k generalizing p m with
 |zero=>
  have:p=[]:=Aq d
  rw[this];rfl
 |succ k j=>
  have c:=h m (Aa _);have e:∀n:Nat,m+1<=n->ev (Hi p m) (n:Rat)=0:=λn o=>by
   have a:=Ou p (m:Rat) (n:Rat);rw[h n J,c]at a;have f:((n:Rat)-(m:Rat))≠0:=by
    intro l;have g:(n:Rat)=(m:Rat):=by grind
    have:=Rat.natCast_inj.1 g;omega
   have i:((n:Rat)-(m:Rat))*ev (Hi p m) n=0:=by grind
   rcases FE.1 i with b|b
   . exact absurd b f
   . exact b
  have a:=j e (by rw[TU,d];rfl);rw[Ou p (m:Rat) x,c,a];grind
theorem TW(h:∀x,ev p x=0)(i:Nat):cf p i=0:=by
 induction p generalizing i with
 |nil=>rfl
 |cons c t l=>
  have b:c=0:=by have:=h 0;rw[ev]at this;grind
  have d:∀x,ev t x=0:=λx=>TV (m:=1) (λn o=>by
   have e:=h (n:Rat);rw[ev,b]at e;have f:(n:Rat)≠0:=λg=>by
    have j:(n:Rat)=((0:Nat):Rat):=g;have:=Rat.natCast_inj.1 j;omega
   have k:(n:Rat)*ev t n=0:=by grind
   rcases FE.1 k with a|a
   . exact absurd a f
   . exact a) x
  cases i with
  |zero=>rw[Y1];exact b
  |succ i=>rw[Yh];exact l d i
def EF:List Rat->List Rat->List Rat
 |[],q=>q
 |p,[]=>p
 |c::t,d::s=>(c+d)::EF t s
def Yp(a:Rat)(p:List Rat):List Rat:=p.map λc=>c*a
def Ep:List Rat->List Rat->List Rat
 |[],_=>[]
 |c::t,q=>EF (Yp c q) (0::Ep t q)
theorem Xr(p q:List Rat)(i:Nat):cf (EF p q) i=cf p i+cf q i:=by
 induction p generalizing q i with
 |nil=>rw[EF,Yw];grind
 |cons c t a=>
  cases q with
  |nil=>
   rw[EF,Yw]
   . grind
   . intro h;cases h
  |cons d s=>
   rw[EF];cases i with
   |zero=>simp[cf]
   |succ i=>rw[Yh,Yh,Yh,a]
theorem Xd(a:Rat)(p:List Rat)(i:Nat):cf (Yp a p) i=cf p i*a:=by
 unfold cf Yp;rw[CU];cases p[i]? with
 |none=>simp
 |some c=>rfl
theorem Gx(p q:List Rat)(x:Rat):ev (EF p q) x=ev p x+ev q x:=by
 induction p generalizing q with
 |nil=>rw[EF,ev];grind
 |cons c t a=>
  cases q with
  |nil=>
   rw[EF]
   . rw[show ev [] x=0 from rfl];grind
   . intro h;cases h
  |cons d s=>rw[EF,ev,ev,ev,a];grind
theorem Xs(a:Rat)(p:List Rat)(x:Rat):ev (Yp a p) x=ev p x*a:=by
 induction p with
 |nil=>simp[Yp,ev]
 |cons c t b=>
  rw[show Yp a (c::t)=(c*a)::Yp a t from rfl,ev,ev,b];grind
theorem Mr(p q:List Rat)(x:Rat):ev (Ep p q) x=ev p x*ev q x:=by
 induction p with
 |nil=>rw[Ep,ev];grind
 |cons c t a=>rw[Ep,Gx,Xs,ev,ev,a];grind
theorem TY(p q:List Rat)(x:Rat):dv (EF p q) x=dv p x+dv q x:=by
 induction p generalizing q with
 |nil=>rw[EF,dv];grind
 |cons c t a=>
  cases q with
  |nil=>
   rw[EF]
   . rw[show dv [] x=0 from rfl];grind
   . intro h;cases h
  |cons d s=>rw[EF,dv,dv,dv,a,Gx];grind
theorem TZ(a:Rat)(p:List Rat)(x:Rat):dv (Yp a p) x=dv p x*a:=by
 induction p with
 |nil=>simp[Yp,dv]
 |cons c t b=>
  rw[show Yp a (c::t)=(c*a)::Yp a t from rfl,dv,dv,b,Xs];grind
theorem Ta(p q:List Rat)(x:Rat):dv (Ep p q) x=dv p x*ev q x+ev p x*dv q x:=by
 induction p with
 |nil=>rw[Ep,dv,ev];grind
 |cons c t a=>rw[Ep,TY,TZ,dv,dv,ev,a,Mr];grind
theorem Kf(h:∀x,ev p x=ev q x):Jd p=Jd q:=by
 have a:∀i,cf (EF p (Yp (-1) q)) i=0:=TW (λx=>by rw[Gx,Xs,h x];grind);refine YH λi=>?_;have:=a i;rw[Xr,Xd]at this;grind
def sumN:Nat->(Nat->Rat)->Rat
 |0,_=>0
 |n+1,f=>sumN n f+f n
theorem Tb{g:Nat->Rat}(h:∀k,k<n->f k=g k):sumN n f=sumN n g:=by
 induction n with
 |zero=>rfl
 |succ n a=>rw[sumN,sumN,a λk b=>h k J,h n J]
theorem Ms(h:∀k,k<n->f k=0):sumN n f=0:=by
 induction n with
 |zero=>rfl
 |succ n a=>rw[sumN,a λk b=>h k J,h n J];grind
theorem Tc(n:Nat)(f:Nat->Rat):sumN (n+1) f=f 0+sumN n (λk=>f (k+1)):=by
 induction n with
 |zero=>simp[sumN];grind
 |succ n a=>rw[sumN,a,sumN];grind
def conv(p q:List Rat)(n k:Nat):Rat:=sumN n λi=>if i<=k then cf p i*cf q (k-i)else 0
theorem Ib(p q:List Rat)(k:Nat):cf (Ep p q) k=conv p q p.length k:=by
 induction p generalizing k with
 |nil=>rfl
 |cons c t b=>
  rw[Ep,Xr,Xd,conv,An,Tc];rw[BG (AK _),Y1,Fd];have e:cf (0::Ep t q) k=sumN t.length (λi=>if i+1<=k then cf (c::t) (i+1)*cf q (k-(i+1))else 0):=by
   cases k with
   |zero=>
    rw[Y1,Ms];intro i a;rw[BE J]
   |succ k=>
    rw[Yh,b,conv];refine Tb λi a=>?_;by_cases h:i<=k
    . rw[BG h,BG J,Yh,show k+1-(i+1)=k-i from by omega]
    . rw[BE h,BE J]
  rw[e];grind
theorem Ov(p q:List Rat)(h:p.length<=n):conv p q n k=conv p q p.length k:=by
 induction n with
 |zero=>rw[show p.length=0 from by omega]
 |succ n b=>
  by_cases a:p.length=n+1
  . rw[a]
  . rw[<-b J];show conv p q n k+_=_
    dsimp only;rw[J1 (show p.length<=n from by omega)];split<;>grind
theorem Td(p q:List Rat)(h:k+1<=n):conv p q n k=conv p q (k+1) k:=by
 induction n with
 |zero=>omega
 |succ n b=>
  by_cases a:k+1=n+1
  . rw[a]
  . rw[<-b J];show conv p q n k+_=_
    dsimp only;rw[BE J];grind
theorem Te(h:p.length+q.length<=k+1):cf (Ep p q) k=0:=by
 rw[Ib];refine Ms λi a=>?_;split
 . rw[J1 (p:=q) J];grind
 . rfl
theorem Ow(p q:List Rat)(m n:Nat)(hp:p.length=m+1)(hq:q.length=n+1):cf (Ep p q) (m+n)=cf p m*cf q n:=by
 rw[Ib,hp,conv,sumN,BG J,show m+n-m=n from by omega];rw[Ms]
 . grind
 . intro i a;split
   . rw[J1 (p:=q) J];grind
   . rfl
theorem Ox(hp:Jd p=p)(hq:Jd q=q)(d:p≠[])(e:q≠[]):(Jd (Ep p q)).length=p.length+q.length-1:=by
 have f:=JA hp d;have g:=JA hq e;have l1:0<p.length:=Al.2 d;have l2:0<q.length:=Al.2 e;have i:=Ow p q (p.length-1) (q.length-1) J J;have b:cf (Ep p q) (p.length-1+(q.length-1))≠0:=by
  rw[i];intro c;rcases FE.1 c with a|a
  . exact f a
  . exact g a
 have c:(Jd (Ep p q)).length<=p.length+q.length-1:=Mq λj k=>Te J;rcases AO (Jd (Ep p q)).length (p.length+q.length-1)with a|a
 . rw[<-JR]at b;exact absurd (J1 J) b
 . omega
def IF(p:List Rat):List Rat:=(List.range (p.length-1)).map λi=>cf p (i+1)*((i+1:Nat):Rat)
theorem Ic(p:List Rat)(i:Nat):cf (IF p) i=cf p (i+1)*((i+1:Nat):Rat):=by
 unfold IF;rw[LL];split
 . rfl
 . rw[J1 J];grind
theorem Tf(p:List Rat)(x:Rat):ev (IF p) x=dv p x:=by
 induction p with
 |nil=>rfl
 |cons c t a=>
  have e:∀i,cf (IF (c::t)) i=cf (EF t (0::IF t)) i:=λi=>by
   rw[Ic,Xr,Yh];cases i with
   |zero=>rw[Y1];grind
   |succ i=>rw[Yh,Ic];grind
  rw[Ke e,Gx,ev,a,dv];grind
theorem Tg(p:List Rat):EF p []=p:=by cases p<;>rfl
theorem Oy{u v a b:List Rat}(hq:Jd q=q)(r:q≠[])(s:Jd u=u)(t:Jd a=a)(w:Jd v=v)(y:Jd b=b)(C:v.length<q.length)(D:b.length<q.length)
(h:∀x,ev q x*ev u x+ev v x=ev q x*ev a x+ev b x):u=a/\v=b:=by
 obtain⟨d,g⟩:=ex (Jd (EF u (Yp (-1) a)));have k:Jd d=d:=by rw[<-g,Yj]
 have e:∀x,ev d x=ev u x-ev a x:=λx=>by rw[<-g,XE,Gx,Xs];grind
 have l:∀x,ev (Ep d q) x=ev (EF b (Yp (-1) v)) x:=λx=>by
  rw[Mr,Gx,Xs,e];have:=h x;grind
 have o:=Kf l;have z:(Jd (EF b (Yp (-1) v))).length<q.length:=by
  refine Cp (Mq (n:=q.length-1) λj B=>?_) J;rw[Xr,Xd,J1 J,J1 J];grind
 have i:d=[]:=by
  by_cases c:d=[]
  . exact c
  . have p:=Ox k hq c r;have A:0<d.length:=Al.2 c;rw[o]at p;omega
 have m:∀x,ev u x=ev a x:=λx=>by
  have:=e x;rw[i,show ev [] x=0 from rfl]at this;grind
 have f:u=a:=by rw[<-s,<-t];exact Kf m
 refine⟨f,?_⟩;rw[<-w,<-y];exact Kf λx=>by
  have:=h x;rw[f]at this;grind
def Dp(i:Nat)(q:List Rat):List Rat:=List.replicate i 0++q
theorem Id(i:Nat)(q:List Rat)(k:Nat):cf (Dp i q) k=if i<=k then cf q (k-i)else 0:=by
 unfold cf Dp;by_cases h:k<i
 . rw[AJ (by simpa using h),BE J,List.getElem?_replicate];split<;>rfl
 . rw[AC si,BG J];simp
theorem LN(i:Nat)(q:List Rat)(x:Rat):ev (Dp i q) x=x^i*ev q x:=by
 induction i with
 |zero=>rw[show Dp 0 q=q from rfl];grind
 |succ i a=>
  rw[show Dp (i+1) q=0::Dp i q from rfl,ev,a];grind
def YI(z:List Rat)(i:Nat)(a:Rat)(q:List Rat):Nat->List Rat
 |0=>z
 |j+1=>(YI z i a q j).set (i+j) (cf (YI z i a q j) (i+j)+a*cf q j)
theorem Yx(z:List Rat)(i:Nat)(a:Rat)(q:List Rat)(j:Nat):(YI z i a q j).length=z.length:=by
 induction j with
 |zero=>rfl
 |succ j b=>rw[YI,Cs,b]
theorem Th(z:List Rat)(i:Nat)(a:Rat)(q:List Rat)(j k:Nat)(h:i+j<=z.length):cf (YI z i a q j) k=cf z k+(if i<=k/\k<i+j then a*cf q (k-i)else 0):=by
 induction j with
 |zero=>rw[YI,BE J];grind
 |succ j b=>
  have b:=b J;rw[YI,XG _ _ _ _ (by rw[Yx];omega)];by_cases c:k=i+j
  . subst c;rw[BG rfl,b,BE J,BG J,show i+j-i=j from by omega];grind
  . rw[BE c,b];by_cases d:i<=k/\k<i+j
    . rw[BG d,BG J]
    . rw[BE d,BE J]
theorem Mt(z:List Rat)(i:Nat)(a:Rat)(q:List Rat)(k:Nat)(h:i+q.length<=z.length):cf (YI z i a q q.length) k=cf z k+a*cf (Dp i q) k:=by
 rw[Th _ _ _ _ _ _ h,Id];by_cases b:i<=k
 . by_cases c:k<i+q.length
   . rw[BG ⟨b,c⟩,BG b]
   . rw[BE J,BG b,J1 (p:=q) J];grind
 . rw[BE J,BE b];grind
theorem Ti(z:List Rat)(i:Nat)(a:Rat)(q:List Rat)(x:Rat)(h:i+q.length<=z.length):ev (YI z i a q q.length) x=ev z x+a*(x^i*ev q x):=by
 have e:∀k,cf (YI z i a q q.length) k=cf (EF z (Yp a (Dp i q))) k:=λk=>by
  rw[Mt _ _ _ _ _ h,Xr,Xd];grind
 rw[Ke e,Gx,Xs,LN];grind
def YA(p q:List Rat)(n:Nat):Nat->List Rat
 |0=>List.replicate n 0
 |i+1=>YI (YA p q n i) i (cf p i) q q.length
theorem Mu(p q:List Rat)(n i:Nat):(YA p q n i).length=n:=by
 induction i with
 |zero=>rw[YA,Au]
 |succ i a=>rw[YA,Yx,a]
theorem Mv(p q:List Rat)(n i k:Nat)(h:i=0\/i+q.length<=n+1):cf (YA p q n i) k=conv p q i k:=by
 induction i with
 |zero=>rw[YA,JQ];rfl
 |succ i a=>
  rw[YA,Mt _ _ _ _ _ (by rw[Mu];omega),a J,Id];show _=conv p q i k+_
  dsimp only;split<;>grind
def JF(p q:List Rat)(n m:Nat):Nat->List Rat × List Rat
 |0=>(List.replicate m 0,p)
 |k+1=>
  let s:=JF p q n m k
  let i:=m-(k+1)
  let c:=cf s.2 (i+n)/cf q n
  (s.1.set i c,YI s.2 i (-c) q q.length)
theorem YJ(p q:List Rat)(n m k:Nat):(JF p q n m k).1.length=m/\(JF p q n m k).2.length=p.length:=by
 induction k with
 |zero=>exact⟨Au,rfl⟩
 |succ k a=>rw[JF];exact⟨by rw[Cs];exact a.1,by rw[Yx];exact a.2⟩
theorem Tj(p:List Rat)(i:Nat)(c:Rat)(x:Rat)(d:i<p.length)(b:cf p i=0):ev (p.set i c) x=ev p x+c*x^i:=by
 have e:∀k,cf (p.set i c) k=cf (EF p (Dp i [c])) k:=λk=>by
  rw[XG _ _ _ _ d,Xr,Id];by_cases h:k=i
  . subst h;rw[BG rfl,BG (Aa _),b,A3,Y1];grind
  . rw[BE h];by_cases a:i<=k
    . rw[BG a,J1 (p:=[c]) si];grind
    . rw[BE a];grind
 rw[Ke e,Gx,LN];simp[ev];grind
theorem Oz(p q:List Rat)(n m:Nat)(hq:q.length=n+1)(hl:cf q n≠0)(v:m+n=p.length):∀k,k<=m->
 (∀x,ev p x=ev q x*ev (JF p q n m k).1 x+ev (JF p q n m k).2 x)/\(∀j,j<m-k->cf (JF p q n m k).1 j=0)/\(∀j,m-k+n<=j->cf (JF p q n m k).2 j=0):=by
 intro k;induction k with
 |zero=>
  intro _;refine⟨λx=>?_,λj _=>JQ _ _,λj e=>J1 (by show p.length<=j;omega)⟩;rw[JF];dsimp only;rw[Kd (JQ m)];grind
 |succ k r=>
  intro u;obtain⟨f,b,g⟩:=r J;obtain⟨l1,l2⟩:=YJ p q n m k;rw[JF];dsimp only;generalize hs:JF p q n m k=s at *;obtain⟨i,o⟩:=ex (m-(k+1));rw[o];obtain⟨c,d⟩:=ex (cf s.2 (i+n)/cf q n);rw[d];have a:i+q.length<=s.2.length:=J
  have t:c*cf q n=cf s.2 (i+n):=by rw[<-d];exact Cq hl
  refine⟨λx=>?_,λj e=>?_,λj e=>?_⟩
  . rw[Tj _ _ _ _ J (b i J),Ti _ _ _ _ _ a,f x];grind
  . rw[XG _ _ _ _ J,BE J];exact b j J
  . rw[Mt _ _ _ _ _ a,Id,BG J];by_cases l:j=i+n
    . subst l;rw[show i+n-i=n from by omega];grind
    . rw[g j J,J1 (p:=q) J];grind
def JS(p q:List Rat):List Rat:=Jd (JF p q (q.length-1) (p.length-(q.length-1)) (p.length-(q.length-1))).1
def JU(p q:List Rat):List Rat:=Jd (JF p q (q.length-1) (p.length-(q.length-1)) (p.length-(q.length-1))).2
theorem YK(p q:List Rat)(hq:Jd q=q)(a:q≠[]):(∀x,ev p x=ev q x*ev (JS p q) x+ev (JU p q) x)/\(JU p q).length<q.length/\Jd (JS p q)=JS p q/\Jd (JU p q)=JU p q:=by
 have l1:0<q.length:=Al.2 a;refine⟨λx=>?_,?_,Yj _,Yj _⟩
 . unfold JS JU;rw[XE,XE];by_cases h:q.length-1<=p.length
   . exact(Oz p q (q.length-1) (p.length-(q.length-1)) J (JA hq a) J _ (Aa _)).1 x
   . rw[show p.length-(q.length-1)=0 from by omega,JF];dsimp only;rw[Kd (JQ 0)];grind
 . unfold JU;refine Cp (Mq (n:=q.length-1) λj b=>?_) J;by_cases h:q.length-1<=p.length
   . exact(Oz p q (q.length-1) (p.length-(q.length-1)) J (JA hq a) J _ (Aa _)).2.2 j J
   . rw[show p.length-(q.length-1)=0 from by omega,JF];exact J1 (by dsimp only;omega)
def Xz(p q:List Rat):List Rat:=Jd (EF p q)
def JP(p q:List Rat):List Rat:=Jd (EF p (Yp (-1) q))
def Jv(p q:List Rat):List Rat:=Jd (Ep p q)
def Jh(p:List Rat):List Rat:=Jd (IF p)
theorem XP(p q:List Rat):Jd (Xz p q)=Xz p q:=Yj _
theorem XQ(p q:List Rat):Jd (JP p q)=JP p q:=Yj _
theorem Yt(p q:List Rat):Jd (Jv p q)=Jv p q:=Yj _
theorem YS(p:List Rat):Jd (Jh p)=Jh p:=Yj _
theorem Xt(p q:List Rat)(x:Rat):ev (Xz p q) x=ev p x+ev q x:=by unfold Xz;rw[XE,Gx]
theorem Gy(p q:List Rat)(x:Rat):ev (JP p q) x=ev p x-ev q x:=by unfold JP;rw[XE,Gx,Xs];grind
theorem Jo(p q:List Rat)(x:Rat):ev (Jv p q) x=ev p x*ev q x:=by unfold Jv;rw[XE,Mr]
theorem LO(p:List Rat)(x:Rat):ev (Jh p) x=dv p x:=by unfold Jh;rw[XE,Tf]
theorem O0(p q:List Rat)(i:Nat):cf (Xz p q) i=cf p i+cf q i:=by unfold Xz;rw[JR,Xr]
theorem Kg(p q:List Rat)(i:Nat):cf (JP p q) i=cf p i-cf q i:=by unfold JP;rw[JR,Xr,Xd];grind
theorem Tk(p q:List Rat):(EF p q).length=max p.length q.length:=by
 induction p generalizing q with
 |nil=>rw[EF];simp
 |cons c t a=>
  cases q with
  |nil=>rw[Tg];simp
  |cons d s=>rw[EF,An,a,An,An];omega
theorem Tl(p q:List Rat):(Xz p q).length<=max p.length q.length:=by
 have:=J3 (EF p q);rw[Tk]at this;exact this
theorem E0(hp:Jd p=p)(hq:Jd q=q)(h:∀x,ev p x=ev q x):p=q:=by rw[<-hp,<-hq];exact Kf h
theorem Tm(p q:List Rat):Jh (Jv p q)=Xz (Jv (Jh p) q) (Jv p (Jh q)):=by
 refine E0 (YS _) (XP _ _) λx=>?_;rw[LO,Xt,Jo,Jo,LO,LO,<-Ta];exact TT (λi=>by unfold Jv;rw[JR]) x
