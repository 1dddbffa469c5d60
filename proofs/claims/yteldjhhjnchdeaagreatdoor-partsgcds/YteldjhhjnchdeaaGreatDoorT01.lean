import Derived.Test.YteldjhhjnchdeaaGreatDoorT00
set_option maxRecDepth 100000
set_option maxHeartbeats 16000000
namespace Go.Proofs.YteldjhhjnchdeaaGreatDoor
theorem Bz:type_of% @List.getElem?_eq_getElem:=@List.getElem?_eq_getElem
theorem BG:type_of% @if_pos:=@if_pos
theorem BE:type_of% @if_neg:=@if_neg
def cf(p:List Rat)(i:Nat):Rat:=p[i]?.getD 0
variable{p q:List Rat}{i k n:Nat}{f:Nat->Rat}
theorem Yw(i:Nat):cf [] i=0:=by simp[cf]
theorem YY(c:Rat)(t:List Rat):cf (c::t) 0=c:=by simp[cf]
theorem Yg(c:Rat)(t:List Rat)(i:Nat):cf (c::t) (i+1)=cf t i:=by simp[cf]
theorem J3(h:p.length<=i):cf p i=0:=by simp[cf,List.getElem?_eq_none h]
theorem TS(h:i<p.length):cf p i=p[i]:=by simp[cf,List.getElem?_eq_getElem h]
theorem Ms(p:List Rat)(c:Rat)(i:Nat):cf (p++[c]) i=if i=p.length then c else cf p i:=by
 unfold cf;by_cases h:i<p.length
 . rw[AJ h,BE J]
 . rw[AC J];by_cases a:i=p.length
   . rw[BG a,a];simp
   . rw[BE a,At si,At J]
theorem XG(p:List Rat)(k:Nat)(c:Rat)(i:Nat)(a:k<p.length):cf (p.set k c) i=if i=k then c else cf p i:=by
 unfold cf;by_cases h:i=k
 . subst h;rw[BG rfl,A6 a];rfl
 . rw[BE h,AW λe=>h e.symm]
theorem JP(n:Nat)(i:Nat):cf (List.replicate n 0) i=0:=by
 unfold cf;rw[List.getElem?_replicate];split<;>rfl
theorem LO(n:Nat)(f:Nat->Rat)(i:Nat):cf ((List.range n).map f) i=if i<n then f i else 0:=by
 unfold cf;rw[CU];by_cases h:i<n
 . rw[List.getElem?_range h,BG h];rfl
 . rw[At si,BE h];rfl
theorem Mt(p:List Rat)(n i:Nat):cf (p.take n) i=if i<n then cf p i else 0:=by
 unfold cf;rw[Fq];split<;>rfl
def Jd:List Rat->List Rat
 |[]=>[]
 |c::t=>match Jd t with
  |[]=>if c=0 then []else [c]
  |d::s=>c::d::s
theorem JR(p:List Rat)(i:Nat):cf (Jd p) i=cf p i:=by
 induction p generalizing i with
 |nil=>rfl
 |cons c t b=>
  have a:=b;rw[Jd];split
  . rename_i h;rw[h]at a;cases i with
    |zero=>split<;>simp_all [cf]
    |succ i=>
     rw[Yg,<-a i,Yw];split
     . rfl
     . rw[Yg,Yw]
  . rename_i d s h;rw[<-h];cases i with
    |zero=>rfl
    |succ i=>rw[Yg,Yg,a]
theorem LP(h:∀i,cf p i=0):Jd p=[]:=by
 induction p with
 |nil=>rfl
 |cons c t d=>
  have a:=d (λi=>by rw[<-Yg c t i];exact h (i+1));have b:c=0:=by rw[<-YY c t];exact h 0
  rw[Jd,a];show(if c=0 then []else [c])=[];rw[BG b]
theorem YQ(h:∀i,cf p i=cf q i):Jd p=Jd q:=by
 induction p generalizing q with
 |nil=>rw[LP (p:=q) λi=>by rw[<-h i,Yw]];rfl
 |cons c t e=>
  cases q with
  |nil=>rw[LP (p:=c::t) λi=>by rw[h i,Yw]];rfl
  |cons d s=>
   have a:c=d:=by have:=h 0;rwa[YY,YY]at this
   have b:=e (q:=s) (λi=>by have:=h (i+1);rwa[Yg,Yg]at this);rw[Jd,Jd,a,b]
theorem Yi(p:List Rat):Jd (Jd p)=Jd p:=YQ (JR p)
theorem Yq(p:List Rat):(Jd p).length<=p.length:=by
 induction p with
 |nil=>exact Aa _
 |cons c t a=>
  rw[Jd];split
  . split<;>simp
  . rename_i d s h;rw[h]at a;simp only[An]at a ⊢;omega
theorem JB(h:Jd p=p)(f:p≠[]):cf p (p.length-1)≠0:=by
 induction p with
 |nil=>exact absurd rfl f
 |cons c t i=>
  rw[Jd]at h;split at h
  . rename_i b;split at h
    . cases h
    . rename_i a;simp only[Fw,true_and]at h;subst h;simpa[cf]using a
  . rename_i d s b;simp only[Fw,true_and]at h;have a:Jd t=t:=by rw[b,h]
    have g:=i a (by rw[<-h];simp);have e:(c::t).length-1=(t.length-1)+1:=by rw[<-h];simp
    rw[e,Yg];exact g
theorem TT(h:p=[]\/cf p (p.length-1)≠0):Jd p=p:=by
 induction p with
 |nil=>rfl
 |cons c t a=>
  rcases h with h|h
  . cases h
  . cases t with
    |nil=>rw[Jd];show(if c=0 then []else [c])=[c];rw[BE (by simpa[cf]using h)]
    |cons d s=>
     have e:(c::d::s).length-1=((d::s).length-1)+1:=Y
     rw[e,Yg]at h;rw[Jd,a (Or.inr h)]
theorem Ot(d:n<=p.length)(a:n=0\/cf p (n-1)≠0)(c:∀j,n<=j->cf p j=0):Jd p=p.take n:=by
 have e:Jd p=Jd (p.take n):=YQ λi=>by
  rw[Mt];split
  . rfl
  . exact c i J
 rw[e];refine TT ?_;rcases a with a|a
 . left;rw[a];rfl
 . by_cases b:n=0
   . left;rw[b];rfl
   . right
     rw[Al,CC d,Mt,BG J];exact a
theorem Mu(h:∀j,n<=j->cf p j=0):(Jd p).length<=n:=by
 rcases AO n (Jd p).length with a|a
 . have b:=JB (Yi p) (by intro c;rw[c]at a;simp at a);rw[JR]at b;exact absurd (h _ J) b
 . exact a
def ev:List Rat->Rat->Rat
 |[],_=>0
 |c::t,x=>c+x*ev t x
theorem Kc(h:∀i,cf p i=0)(x:Rat):ev p x=0:=by
 induction p with
 |nil=>rfl
 |cons c t d=>
  have a:=d (λi=>by rw[<-Yg c t i];exact h (i+1));have b:c=0:=by rw[<-YY c t];exact h 0
  rw[ev,a,b];grind
theorem Kd(h:∀i,cf p i=cf q i)(x:Rat):ev p x=ev q x:=by
 induction p generalizing q with
 |nil=>rw[Kc (p:=q) λi=>by rw[<-h i,Yw]];rfl
 |cons c t e=>
  cases q with
  |nil=>rw[Kc (p:=c::t) λi=>by rw[h i,Yw]];rfl
  |cons d s=>
   have a:c=d:=by have:=h 0;rwa[YY,YY]at this
   have b:=e (q:=s) (λi=>by have:=h (i+1);rwa[Yg,Yg]at this);rw[ev,ev,a,b]
theorem XE(p:List Rat)(x:Rat):ev (Jd p) x=ev p x:=Kd (JR p) x
def dv:List Rat->Rat->Rat
 |[],_=>0
 |_::t,x=>ev t x+x*dv t x
theorem Ou(h:∀i,cf p i=0)(x:Rat):dv p x=0:=by
 induction p with
 |nil=>rfl
 |cons c t b=>
  have a:∀i,cf t i=0:=λi=>by rw[<-Yg c t i];exact h (i+1)
  rw[dv,b a,Kc a];grind
theorem TU(h:∀i,cf p i=cf q i)(x:Rat):dv p x=dv q x:=by
 induction p generalizing q with
 |nil=>rw[Ou (p:=q) λi=>by rw[<-h i,Yw]];rfl
 |cons c t b=>
  cases q with
  |nil=>rw[Ou (p:=c::t) λi=>by rw[h i,Yw]];rfl
  |cons d s=>
   have a:∀i,cf t i=cf s i:=λi=>by have:=h (i+1);rwa[Yg,Yg]at this
   rw[dv,dv,b a,Kd a]
def Hh:List Rat->Rat->List Rat
 |[],_=>[]
 |_::t,a=>match t with
  |[]=>[]
  |d::s=>ev (d::s) a::Hh (d::s) a
theorem TV(p:List Rat)(a:Rat):(Hh p a).length=p.length-1:=by
 induction p with
 |nil=>rfl
 |cons c t b=>
  cases t with
  |nil=>rfl
  |cons d s=>
   rw[Hh,An,b];simp
theorem Ov(p:List Rat)(a x:Rat):ev p x=ev p a+(x-a)*ev (Hh p a) x:=by
 induction p with
 |nil=>simp[ev,Hh];grind
 |cons c t b=>
  cases t with
  |nil=>simp[ev,Hh];grind
  |cons d s=>
   rw[Hh];generalize hq:d::s=q at *;rw[ev,ev,ev,b];grind
theorem TW{m:Nat}(h:∀n:Nat,m<=n->ev p (n:Rat)=0)(x:Rat):ev p x=0:=by
 obtain⟨k,d⟩:=ex (p.length);induction k generalizing p m with
 |zero=>
  have:p=[]:=Aq d
  rw[this];rfl
 |succ k j=>
  have c:=h m (Aa _);have e:∀n:Nat,m+1<=n->ev (Hh p m) (n:Rat)=0:=λn o=>by
   have a:=Ov p (m:Rat) (n:Rat);rw[h n J,c]at a;have f:((n:Rat)-(m:Rat))≠0:=by
    intro l;have g:(n:Rat)=(m:Rat):=by grind
    have:=Rat.natCast_inj.1 g;omega
   have i:((n:Rat)-(m:Rat))*ev (Hh p m) n=0:=by grind
   rcases FE.1 i with b|b
   . exact absurd b f
   . exact b
  have a:=j e (by rw[TV,d];rfl);rw[Ov p (m:Rat) x,c,a];grind
theorem TY(h:∀x,ev p x=0)(i:Nat):cf p i=0:=by
 induction p generalizing i with
 |nil=>rfl
 |cons c t l=>
  have b:c=0:=by have:=h 0;rw[ev]at this;grind
  have d:∀x,ev t x=0:=λx=>TW (m:=1) (λn o=>by
   have e:=h (n:Rat);rw[ev,b]at e;have f:(n:Rat)≠0:=λg=>by
    have j:(n:Rat)=((0:Nat):Rat):=g;have:=Rat.natCast_inj.1 j;omega
   have k:(n:Rat)*ev t n=0:=by grind
   rcases FE.1 k with a|a
   . exact absurd a f
   . exact a) x
  cases i with
  |zero=>rw[YY];exact b
  |succ i=>rw[Yg];exact l d i
def EB:List Rat->List Rat->List Rat
 |[],q=>q
 |p,[]=>p
 |c::t,d::s=>(c+d)::EB t s
def Yr(a:Rat)(p:List Rat):List Rat:=p.map λc=>c*a
def Eo:List Rat->List Rat->List Rat
 |[],_=>[]
 |c::t,q=>EB (Yr c q) (0::Eo t q)
theorem Xq(p q:List Rat)(i:Nat):cf (EB p q) i=cf p i+cf q i:=by
 induction p generalizing q i with
 |nil=>rw[EB,Yw];grind
 |cons c t a=>
  cases q with
  |nil=>
   rw[EB,Yw]
   . grind
   . intro h;cases h
  |cons d s=>
   rw[EB];cases i with
   |zero=>simp[cf]
   |succ i=>rw[Yg,Yg,Yg,a]
theorem Y9(a:Rat)(p:List Rat)(i:Nat):cf (Yr a p) i=cf p i*a:=by
 unfold cf Yr;rw[CU];cases p[i]? with
 |none=>simp
 |some c=>rfl
theorem Gv(p q:List Rat)(x:Rat):ev (EB p q) x=ev p x+ev q x:=by
 induction p generalizing q with
 |nil=>rw[EB,ev];grind
 |cons c t a=>
  cases q with
  |nil=>
   rw[EB]
   . rw[show ev [] x=0 from rfl];grind
   . intro h;cases h
  |cons d s=>rw[EB,ev,ev,ev,a];grind
theorem Xr(a:Rat)(p:List Rat)(x:Rat):ev (Yr a p) x=ev p x*a:=by
 induction p with
 |nil=>simp[Yr,ev]
 |cons c t b=>
  rw[show Yr a (c::t)=(c*a)::Yr a t from rfl,ev,ev,b];grind
theorem Mv(p q:List Rat)(x:Rat):ev (Eo p q) x=ev p x*ev q x:=by
 induction p with
 |nil=>rw[Eo,ev];grind
 |cons c t a=>rw[Eo,Gv,Xr,ev,ev,a];grind
theorem TZ(p q:List Rat)(x:Rat):dv (EB p q) x=dv p x+dv q x:=by
 induction p generalizing q with
 |nil=>rw[EB,dv];grind
 |cons c t a=>
  cases q with
  |nil=>
   rw[EB]
   . rw[show dv [] x=0 from rfl];grind
   . intro h;cases h
  |cons d s=>rw[EB,dv,dv,dv,a,Gv];grind
theorem Ta(a:Rat)(p:List Rat)(x:Rat):dv (Yr a p) x=dv p x*a:=by
 induction p with
 |nil=>simp[Yr,dv]
 |cons c t b=>
  rw[show Yr a (c::t)=(c*a)::Yr a t from rfl,dv,dv,b,Xr];grind
theorem Tb(p q:List Rat)(x:Rat):dv (Eo p q) x=dv p x*ev q x+ev p x*dv q x:=by
 induction p with
 |nil=>rw[Eo,dv,ev];grind
 |cons c t a=>rw[Eo,TZ,Ta,dv,dv,ev,a,Mv];grind
theorem Ke(h:∀x,ev p x=ev q x):Jd p=Jd q:=by
 have a:∀i,cf (EB p (Yr (-1) q)) i=0:=TY (λx=>by rw[Gv,Xr,h x];grind);refine YQ λi=>?_;have:=a i;rw[Xq,Y9]at this;grind
def sumN:Nat->(Nat->Rat)->Rat
 |0,_=>0
 |n+1,f=>sumN n f+f n
theorem Tc{g:Nat->Rat}(h:∀k,k<n->f k=g k):sumN n f=sumN n g:=by
 induction n with
 |zero=>rfl
 |succ n a=>rw[sumN,sumN,a λk b=>h k J,h n J]
theorem Mw(h:∀k,k<n->f k=0):sumN n f=0:=by
 induction n with
 |zero=>rfl
 |succ n a=>rw[sumN,a λk b=>h k J,h n J];grind
theorem Td(n:Nat)(f:Nat->Rat):sumN (n+1) f=f 0+sumN n (λk=>f (k+1)):=by
 induction n with
 |zero=>simp[sumN];grind
 |succ n a=>rw[sumN,a,sumN];grind
def conv(p q:List Rat)(n k:Nat):Rat:=sumN n λi=>if i<=k then cf p i*cf q (k-i)else 0
theorem IY(p q:List Rat)(k:Nat):cf (Eo p q) k=conv p q p.length k:=by
 induction p generalizing k with
 |nil=>rfl
 |cons c t b=>
  rw[Eo,Xq,Y9,conv,An,Td];rw[BG (AK _),YY,Fd];have e:cf (0::Eo t q) k=sumN t.length (λi=>if i+1<=k then cf (c::t) (i+1)*cf q (k-(i+1))else 0):=by
   cases k with
   |zero=>
    rw[YY,Mw];intro i a;rw[BE J]
   |succ k=>
    rw[Yg,b,conv];refine Tc λi a=>?_;by_cases h:i<=k
    . rw[BG h,BG J,Yg,show k+1-(i+1)=k-i from by omega]
    . rw[BE h,BE J]
  rw[e];grind
theorem Ow(p q:List Rat)(h:p.length<=n):conv p q n k=conv p q p.length k:=by
 induction n with
 |zero=>rw[show p.length=0 from by omega]
 |succ n b=>
  by_cases a:p.length=n+1
  . rw[a]
  . rw[<-b J];show conv p q n k+_=_
    dsimp only;rw[J3 (show p.length<=n from by omega)];split<;>grind
theorem Te(p q:List Rat)(h:k+1<=n):conv p q n k=conv p q (k+1) k:=by
 induction n with
 |zero=>omega
 |succ n b=>
  by_cases a:k+1=n+1
  . rw[a]
  . rw[<-b J];show conv p q n k+_=_
    dsimp only;rw[BE J];grind
theorem Tf(h:p.length+q.length<=k+1):cf (Eo p q) k=0:=by
 rw[IY];refine Mw λi a=>?_;split
 . rw[J3 (p:=q) J];grind
 . rfl
theorem Ox(p q:List Rat)(m n:Nat)(hp:p.length=m+1)(hq:q.length=n+1):cf (Eo p q) (m+n)=cf p m*cf q n:=by
 rw[IY,hp,conv,sumN,BG J,show m+n-m=n from by omega];rw[Mw]
 . grind
 . intro i a;split
   . rw[J3 (p:=q) J];grind
   . rfl
theorem Oy(hp:Jd p=p)(hq:Jd q=q)(d:p≠[])(e:q≠[]):(Jd (Eo p q)).length=p.length+q.length-1:=by
 have f:=JB hp d;have g:=JB hq e;have l1:0<p.length:=Am.2 d;have l2:0<q.length:=Am.2 e;have i:=Ox p q (p.length-1) (q.length-1) J J;have b:cf (Eo p q) (p.length-1+(q.length-1))≠0:=by
  rw[i];intro c;rcases FE.1 c with a|a
  . exact f a
  . exact g a
 have c:(Jd (Eo p q)).length<=p.length+q.length-1:=Mu λj k=>Tf J;rcases AO (Jd (Eo p q)).length (p.length+q.length-1)with a|a
 . rw[<-JR]at b;exact absurd (J3 J) b
 . omega
def IZ(p:List Rat):List Rat:=(List.range (p.length-1)).map λi=>cf p (i+1)*((i+1:Nat):Rat)
theorem I5(p:List Rat)(i:Nat):cf (IZ p) i=cf p (i+1)*((i+1:Nat):Rat):=by
 unfold IZ;rw[LO];split
 . rfl
 . rw[J3 J];grind
theorem Tg(p:List Rat)(x:Rat):ev (IZ p) x=dv p x:=by
 induction p with
 |nil=>rfl
 |cons c t a=>
  have e:∀i,cf (IZ (c::t)) i=cf (EB t (0::IZ t)) i:=λi=>by
   rw[I5,Xq,Yg];cases i with
   |zero=>rw[YY];grind
   |succ i=>rw[Yg,I5];grind
  rw[Kd e,Gv,ev,a,dv];grind
theorem Th(p:List Rat):EB p []=p:=by cases p<;>rfl
theorem Oz{u v a b:List Rat}(hq:Jd q=q)(r:q≠[])(s:Jd u=u)(t:Jd a=a)(w:Jd v=v)(y:Jd b=b)(C:v.length<q.length)(D:b.length<q.length)
(h:∀x,ev q x*ev u x+ev v x=ev q x*ev a x+ev b x):u=a/\v=b:=by
 obtain⟨d,g⟩:=ex (Jd (EB u (Yr (-1) a)));have k:Jd d=d:=by rw[<-g,Yi]
 have e:∀x,ev d x=ev u x-ev a x:=λx=>by rw[<-g,XE,Gv,Xr];grind
 have l:∀x,ev (Eo d q) x=ev (EB b (Yr (-1) v)) x:=λx=>by
  rw[Mv,Gv,Xr,e];have:=h x;grind
 have o:=Ke l;have z:(Jd (EB b (Yr (-1) v))).length<q.length:=by
  refine Cp (Mu (n:=q.length-1) λj B=>?_) J;rw[Xq,Y9,J3 J,J3 J];grind
 have i:d=[]:=by
  by_cases c:d=[]
  . exact c
  . have p:=Oy k hq c r;have A:0<d.length:=Am.2 c;rw[o]at p;omega
 have m:∀x,ev u x=ev a x:=λx=>by
  have:=e x;rw[i,show ev [] x=0 from rfl]at this;grind
 have f:u=a:=by rw[<-s,<-t];exact Ke m
 refine⟨f,?_⟩;rw[<-w,<-y];exact Ke λx=>by
  have:=h x;rw[f]at this;grind
def Dn(i:Nat)(q:List Rat):List Rat:=List.replicate i 0++q
theorem Ia(i:Nat)(q:List Rat)(k:Nat):cf (Dn i q) k=if i<=k then cf q (k-i)else 0:=by
 unfold cf Dn;by_cases h:k<i
 . rw[AJ (by simpa using h),BE J,List.getElem?_replicate];split<;>rfl
 . rw[AC si,BG J];simp
theorem LQ(i:Nat)(q:List Rat)(x:Rat):ev (Dn i q) x=x^i*ev q x:=by
 induction i with
 |zero=>rw[show Dn 0 q=q from rfl];grind
 |succ i a=>
  rw[show Dn (i+1) q=0::Dn i q from rfl,ev,a];grind
def YG(z:List Rat)(i:Nat)(a:Rat)(q:List Rat):Nat->List Rat
 |0=>z
 |j+1=>(YG z i a q j).set (i+j) (cf (YG z i a q j) (i+j)+a*cf q j)
theorem Yx(z:List Rat)(i:Nat)(a:Rat)(q:List Rat)(j:Nat):(YG z i a q j).length=z.length:=by
 induction j with
 |zero=>rfl
 |succ j b=>rw[YG,Cs,b]
theorem Ti(z:List Rat)(i:Nat)(a:Rat)(q:List Rat)(j k:Nat)(h:i+j<=z.length):cf (YG z i a q j) k=cf z k+(if i<=k/\k<i+j then a*cf q (k-i)else 0):=by
 induction j with
 |zero=>rw[YG,BE J];grind
 |succ j b=>
  have b:=b J;rw[YG,XG _ _ _ _ (by rw[Yx];omega)];by_cases c:k=i+j
  . subst c;rw[BG rfl,b,BE J,BG J,show i+j-i=j from by omega];grind
  . rw[BE c,b];by_cases d:i<=k/\k<i+j
    . rw[BG d,BG J]
    . rw[BE d,BE J]
theorem Mx(z:List Rat)(i:Nat)(a:Rat)(q:List Rat)(k:Nat)(h:i+q.length<=z.length):cf (YG z i a q q.length) k=cf z k+a*cf (Dn i q) k:=by
 rw[Ti _ _ _ _ _ _ h,Ia];by_cases b:i<=k
 . by_cases c:k<i+q.length
   . rw[BG ⟨b,c⟩,BG b]
   . rw[BE J,BG b,J3 (p:=q) J];grind
 . rw[BE J,BE b];grind
theorem Tj(z:List Rat)(i:Nat)(a:Rat)(q:List Rat)(x:Rat)(h:i+q.length<=z.length):ev (YG z i a q q.length) x=ev z x+a*(x^i*ev q x):=by
 have e:∀k,cf (YG z i a q q.length) k=cf (EB z (Yr a (Dn i q))) k:=λk=>by
  rw[Mx _ _ _ _ _ h,Xq,Y9];grind
 rw[Kd e,Gv,Xr,LQ];grind
def YA(p q:List Rat)(n:Nat):Nat->List Rat
 |0=>List.replicate n 0
 |i+1=>YG (YA p q n i) i (cf p i) q q.length
theorem My(p q:List Rat)(n i:Nat):(YA p q n i).length=n:=by
 induction i with
 |zero=>rw[YA,Au]
 |succ i a=>rw[YA,Yx,a]
theorem Mz(p q:List Rat)(n i k:Nat)(h:i=0\/i+q.length<=n+1):cf (YA p q n i) k=conv p q i k:=by
 induction i with
 |zero=>rw[YA,JP];rfl
 |succ i a=>
  rw[YA,Mx _ _ _ _ _ (by rw[My];omega),a J,Ia];show _=conv p q i k+_
  dsimp only;split<;>grind
def JF(p q:List Rat)(n m:Nat):Nat->List Rat × List Rat
 |0=>(List.replicate m 0,p)
 |k+1=>
  let s:=JF p q n m k
  let i:=m-(k+1)
  let c:=cf s.2 (i+n)/cf q n
  (s.1.set i c,YG s.2 i (-c) q q.length)
theorem Xh(p q:List Rat)(n m k:Nat):(JF p q n m k).1.length=m/\(JF p q n m k).2.length=p.length:=by
 induction k with
 |zero=>exact⟨Au,rfl⟩
 |succ k a=>rw[JF];exact⟨by rw[Cs];exact a.1,by rw[Yx];exact a.2⟩
theorem Tk(p:List Rat)(i:Nat)(c:Rat)(x:Rat)(d:i<p.length)(b:cf p i=0):ev (p.set i c) x=ev p x+c*x^i:=by
 have e:∀k,cf (p.set i c) k=cf (EB p (Dn i [c])) k:=λk=>by
  rw[XG _ _ _ _ d,Xq,Ia];by_cases h:k=i
  . subst h;rw[BG rfl,BG (Aa _),b,A3,YY];grind
  . rw[BE h];by_cases a:i<=k
    . rw[BG a,J3 (p:=[c]) si];grind
    . rw[BE a];grind
 rw[Kd e,Gv,LQ];simp[ev];grind
theorem O0(p q:List Rat)(n m:Nat)(hq:q.length=n+1)(hl:cf q n≠0)(v:m+n=p.length):∀k,k<=m->
 (∀x,ev p x=ev q x*ev (JF p q n m k).1 x+ev (JF p q n m k).2 x)/\(∀j,j<m-k->cf (JF p q n m k).1 j=0)/\(∀j,m-k+n<=j->cf (JF p q n m k).2 j=0):=by
 intro k;induction k with
 |zero=>
  intro _;refine⟨λx=>?_,λj _=>JP _ _,λj e=>J3 (by show p.length<=j;omega)⟩;rw[JF];dsimp only;rw[Kc (JP m)];grind
 |succ k r=>
  intro u;obtain⟨f,b,g⟩:=r J;obtain⟨l1,l2⟩:=Xh p q n m k;rw[JF];dsimp only;generalize hs:JF p q n m k=s at *;obtain⟨i,o⟩:=ex (m-(k+1));rw[o];obtain⟨c,d⟩:=ex (cf s.2 (i+n)/cf q n);rw[d];have a:i+q.length<=s.2.length:=J
  have t:c*cf q n=cf s.2 (i+n):=by rw[<-d];exact Cq hl
  refine⟨λx=>?_,λj e=>?_,λj e=>?_⟩
  . rw[Tk _ _ _ _ J (b i J),Tj _ _ _ _ _ a,f x];grind
  . rw[XG _ _ _ _ J,BE J];exact b j J
  . rw[Mx _ _ _ _ _ a,Ia,BG J];by_cases l:j=i+n
    . subst l;rw[show i+n-i=n from by omega];grind
    . rw[g j J,J3 (p:=q) J];grind
def J0(p q:List Rat):List Rat:=Jd (JF p q (q.length-1) (p.length-(q.length-1)) (p.length-(q.length-1))).1
def JU(p q:List Rat):List Rat:=Jd (JF p q (q.length-1) (p.length-(q.length-1)) (p.length-(q.length-1))).2
theorem YH(p q:List Rat)(hq:Jd q=q)(a:q≠[]):(∀x,ev p x=ev q x*ev (J0 p q) x+ev (JU p q) x)/\(JU p q).length<q.length/\Jd (J0 p q)=J0 p q/\Jd (JU p q)=JU p q:=by
 have l1:0<q.length:=Am.2 a;refine⟨λx=>?_,?_,Yi _,Yi _⟩
 . unfold J0 JU;rw[XE,XE];by_cases h:q.length-1<=p.length
   . exact(O0 p q (q.length-1) (p.length-(q.length-1)) J (JB hq a) J _ (Aa _)).1 x
   . rw[show p.length-(q.length-1)=0 from by omega,JF];dsimp only;rw[Kc (JP 0)];grind
 . unfold JU;refine Cp (Mu (n:=q.length-1) λj b=>?_) J;by_cases h:q.length-1<=p.length
   . exact(O0 p q (q.length-1) (p.length-(q.length-1)) J (JB hq a) J _ (Aa _)).2.2 j J
   . rw[show p.length-(q.length-1)=0 from by omega,JF];exact J3 (by dsimp only;omega)
def Xy(p q:List Rat):List Rat:=Jd (EB p q)
def JO(p q:List Rat):List Rat:=Jd (EB p (Yr (-1) q))
def Jv(p q:List Rat):List Rat:=Jd (Eo p q)
def Ji(p:List Rat):List Rat:=Jd (IZ p)
theorem XM(p q:List Rat):Jd (Xy p q)=Xy p q:=Yi _
theorem XN(p q:List Rat):Jd (JO p q)=JO p q:=Yi _
theorem Ym(p q:List Rat):Jd (Jv p q)=Jv p q:=Yi _
theorem Xi(p:List Rat):Jd (Ji p)=Ji p:=Yi _
theorem Xs(p q:List Rat)(x:Rat):ev (Xy p q) x=ev p x+ev q x:=by unfold Xy;rw[XE,Gv]
theorem Gw(p q:List Rat)(x:Rat):ev (JO p q) x=ev p x-ev q x:=by unfold JO;rw[XE,Gv,Xr];grind
theorem Jn(p q:List Rat)(x:Rat):ev (Jv p q) x=ev p x*ev q x:=by unfold Jv;rw[XE,Mv]
theorem LR(p:List Rat)(x:Rat):ev (Ji p) x=dv p x:=by unfold Ji;rw[XE,Tg]
theorem O1(p q:List Rat)(i:Nat):cf (Xy p q) i=cf p i+cf q i:=by unfold Xy;rw[JR,Xq]
theorem Kf(p q:List Rat)(i:Nat):cf (JO p q) i=cf p i-cf q i:=by unfold JO;rw[JR,Xq,Y9];grind
theorem Tl(p q:List Rat):(EB p q).length=max p.length q.length:=by
 induction p generalizing q with
 |nil=>rw[EB];simp
 |cons c t a=>
  cases q with
  |nil=>rw[Th];simp
  |cons d s=>rw[EB,An,a,An,An];omega
theorem Tm(p q:List Rat):(Xy p q).length<=max p.length q.length:=by
 have:=Yq (EB p q);rw[Tl]at this;exact this
theorem E0(hp:Jd p=p)(hq:Jd q=q)(h:∀x,ev p x=ev q x):p=q:=by rw[<-hp,<-hq];exact Ke h
theorem Tn(p q:List Rat):Ji (Jv p q)=Xy (Jv (Ji p) q) (Jv p (Ji q)):=by
 refine E0 (Xi _) (XM _ _) λx=>?_;rw[LR,Xs,Jn,Jn,LR,LR,<-Tb];exact TU (λi=>by unfold Jv;rw[JR]) x
