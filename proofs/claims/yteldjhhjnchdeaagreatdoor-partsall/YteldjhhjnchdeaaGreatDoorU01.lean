import Derived.Test.YteldjhhjnchdeaaGreatDoorU00
set_option maxRecDepth 100000
set_option maxHeartbeats 16000000
namespace Go.Proofs.YteldjhhjnchdeaaGreatDoor
theorem Bz:type_of% @List.getElem?_eq_getElem:=@List.getElem?_eq_getElem
theorem BG:type_of% @if_pos:=@if_pos
theorem BC:type_of% @if_neg:=@if_neg
def cf(p:List Rat)(i:Nat):Rat:=p[i]?.getD 0
variable{p q:List Rat}{i k n:Nat}{f:Nat->Rat}
theorem YI(i:Nat):cf [] i=0:=by simp[cf]
theorem Y5(c:Rat)(t:List Rat):cf (c::t) 0=c:=by simp[cf]
theorem Yp(c:Rat)(t:List Rat)(i:Nat):cf (c::t) (i+1)=cf t i:=by simp[cf]
theorem JZ(h:p.length<=i):cf p i=0:=by simp[cf,List.getElem?_eq_none h]
theorem UV(h:i<p.length):cf p i=p[i]:=by simp[cf,List.getElem?_eq_getElem h]
theorem Nc(p:List Rat)(c:Rat)(i:Nat):cf (p++[c]) i=if i=p.length then c else cf p i:=by
 unfold cf;by_cases h:i<p.length
 . rw[AN h,BC O]
 . rw[AD O];by_cases a:i=p.length
   . rw[BG a,a];simp
   . rw[BC a,At si,At O]
theorem XU(p:List Rat)(k:Nat)(c:Rat)(i:Nat)(a:k<p.length):cf (p.set k c) i=if i=k then c else cf p i:=by
 unfold cf;by_cases h:i=k
 . subst h;rw[BG rfl,A8 a];rfl
 . rw[BC h,AY λe=>h e.symm]
theorem JW(n:Nat)(i:Nat):cf (List.replicate n 0) i=0:=by
 unfold cf;rw[List.getElem?_replicate];split<;>rfl
theorem L4(n:Nat)(f:Nat->Rat)(i:Nat):cf ((List.range n).map f) i=if i<n then f i else 0:=by
 unfold cf;rw[CP];by_cases h:i<n
 . rw[List.getElem?_range h,BG h];rfl
 . rw[At si,BC h];rfl
theorem Nd(p:List Rat)(n i:Nat):cf (p.take n) i=if i<n then cf p i else 0:=by
 unfold cf;rw[Fv];split<;>rfl
def Jc:List Rat->List Rat
 |[]=>[]
 |c::t=>match Jc t with
  |[]=>if c=0 then []else [c]
  |d::s=>c::d::s
theorem JX(p:List Rat)(i:Nat):cf (Jc p) i=cf p i:=by
 induction p generalizing i with
 |nil=>rfl
 |cons c t b=>
  have a:=b;rw[Jc];split
  . rename_i h;rw[h]at a;cases i with
    |zero=>split<;>simp_all [cf]
    |succ i=>
     rw[Yp,<-a i,YI];split
     . rfl
     . rw[Yp,YI]
  . rename_i d s h;rw[<-h];cases i with
    |zero=>rfl
    |succ i=>rw[Yp,Yp,a]
theorem L5(h:∀i,cf p i=0):Jc p=[]:=by
 induction p with
 |nil=>rfl
 |cons c t d=>
  have a:=d (λi=>by rw[<-Yp c t i];exact h (i+1));have b:c=0:=by rw[<-Y5 c t];exact h 0
  rw[Jc,a];show(if c=0 then []else [c])=[];rw[BG b]
theorem YG(h:∀i,cf p i=cf q i):Jc p=Jc q:=by
 induction p generalizing q with
 |nil=>rw[L5 (p:=q) λi=>by rw[<-h i,YI]];rfl
 |cons c t e=>
  cases q with
  |nil=>rw[L5 (p:=c::t) λi=>by rw[h i,YI]];rfl
  |cons d s=>
   have a:c=d:=by have:=h 0;rwa[Y5,Y5]at this
   have b:=e (q:=s) (λi=>by have:=h (i+1);rwa[Yp,Yp]at this);rw[Jc,Jc,a,b]
theorem Yr(p:List Rat):Jc (Jc p)=Jc p:=YG (JX p)
theorem JG(p:List Rat):(Jc p).length<=p.length:=by
 induction p with
 |nil=>exact Aa _
 |cons c t a=>
  rw[Jc];split
  . split<;>simp
  . rename_i d s h;rw[h]at a;simp only[An]at a ⊢;omega
theorem Jv(h:Jc p=p)(f:p≠[]):cf p (p.length-1)≠0:=by
 induction p with
 |nil=>exact absurd rfl f
 |cons c t i=>
  rw[Jc]at h;split at h
  . rename_i b;split at h
    . cases h
    . rename_i a;simp only[FA,true_and]at h;subst h;simpa[cf]using a
  . rename_i d s b;simp only[FA,true_and]at h;have a:Jc t=t:=by rw[b,h]
    have g:=i a (by rw[<-h];simp);have e:(c::t).length-1=(t.length-1)+1:=by rw[<-h];simp
    rw[e,Yp];exact g
theorem UW(h:p=[]\/cf p (p.length-1)≠0):Jc p=p:=by
 induction p with
 |nil=>rfl
 |cons c t a=>
  rcases h with h|h
  . cases h
  . cases t with
    |nil=>rw[Jc];show(if c=0 then []else [c])=[c];rw[BC (by simpa[cf]using h)]
    |cons d s=>
     have e:(c::d::s).length-1=((d::s).length-1)+1:=Y
     rw[e,Yp]at h;rw[Jc,a (Or.inr h)]
theorem Pn(d:n<=p.length)(a:n=0\/cf p (n-1)≠0)(c:∀j,n<=j->cf p j=0):Jc p=p.take n:=by
 have e:Jc p=Jc (p.take n):=YG λi=>by
  rw[Nd];split
  . rfl
  . exact c i O
 rw[e];refine UW ?_;rcases a with a|a
 . left;rw[a];rfl
 . by_cases b:n=0
   . left;rw[b];rfl
   . right
     rw[Am,CK d,Nd,BG O];exact a
theorem Nf(h:∀j,n<=j->cf p j=0):(Jc p).length<=n:=by
 rcases AR n (Jc p).length with a|a
 . have b:=Jv (Yr p) (by intro c;rw[c]at a;simp at a);rw[JX]at b;exact absurd (h _ O) b
 . exact a
def ev:List Rat->Rat->Rat
 |[],_=>0
 |c::t,x=>c+x*ev t x
theorem LB(h:∀i,cf p i=0)(x:Rat):ev p x=0:=by
 induction p with
 |nil=>rfl
 |cons c t d=>
  have a:=d (λi=>by rw[<-Yp c t i];exact h (i+1));have b:c=0:=by rw[<-Y5 c t];exact h 0
  rw[ev,a,b];grind
theorem LC(h:∀i,cf p i=cf q i)(x:Rat):ev p x=ev q x:=by
 induction p generalizing q with
 |nil=>rw[LB (p:=q) λi=>by rw[<-h i,YI]];rfl
 |cons c t e=>
  cases q with
  |nil=>rw[LB (p:=c::t) λi=>by rw[h i,YI]];rfl
  |cons d s=>
   have a:c=d:=by have:=h 0;rwa[Y5,Y5]at this
   have b:=e (q:=s) (λi=>by have:=h (i+1);rwa[Yp,Yp]at this);rw[ev,ev,a,b]
theorem XR(p:List Rat)(x:Rat):ev (Jc p) x=ev p x:=LC (JX p) x
def dv:List Rat->Rat->Rat
 |[],_=>0
 |_::t,x=>ev t x+x*dv t x
theorem Po(h:∀i,cf p i=0)(x:Rat):dv p x=0:=by
 induction p with
 |nil=>rfl
 |cons c t b=>
  have a:∀i,cf t i=0:=λi=>by rw[<-Yp c t i];exact h (i+1)
  rw[dv,b a,LB a];grind
theorem UX(h:∀i,cf p i=cf q i)(x:Rat):dv p x=dv q x:=by
 induction p generalizing q with
 |nil=>rw[Po (p:=q) λi=>by rw[<-h i,YI]];rfl
 |cons c t b=>
  cases q with
  |nil=>rw[Po (p:=c::t) λi=>by rw[h i,YI]];rfl
  |cons d s=>
   have a:∀i,cf t i=cf s i:=λi=>by have:=h (i+1);rwa[Yp,Yp]at this
   rw[dv,dv,b a,LC a]
def IC:List Rat->Rat->List Rat
 |[],_=>[]
 |_::t,a=>match t with
  |[]=>[]
  |d::s=>ev (d::s) a::IC (d::s) a
theorem UY(p:List Rat)(a:Rat):(IC p a).length=p.length-1:=by
 induction p with
 |nil=>rfl
 |cons c t b=>
  cases t with
  |nil=>rfl
  |cons d s=>
   rw[IC,An,b];simp
theorem Pp(p:List Rat)(a x:Rat):ev p x=ev p a+(x-a)*ev (IC p a) x:=by
 induction p with
 |nil=>simp[ev,IC];grind
 |cons c t b=>
  cases t with
  |nil=>simp[ev,IC];grind
  |cons d s=>
   rw[IC];generalize hq:d::s=q at *;rw[ev,ev,ev,b];grind
theorem UZ{m:Nat}(h:∀n:Nat,m<=n->ev p (n:Rat)=0)(x:Rat):ev p x=0:=by
 obtain⟨k,d⟩:=ex (p.length);induction k generalizing p m with
 |zero=>
  have:p=[]:=Ar d;rw[this];rfl
 |succ k j=>
  have c:=h m (Aa _);have e:∀n:Nat,m+1<=n->ev (IC p m) (n:Rat)=0:=λn o=>by
   have a:=Pp p (m:Rat) (n:Rat);rw[h n O,c]at a;have f:((n:Rat)-(m:Rat))≠0:=by
    intro l;have g:(n:Rat)=(m:Rat):=by grind
    have:=Rat.natCast_inj.1 g;omega
   have i:((n:Rat)-(m:Rat))*ev (IC p m) n=0:=by grind
   rcases Fm.1 i with b|b
   . exact absurd b f
   . exact b
  have a:=j e (by rw[UY,d];rfl);rw[Pp p (m:Rat) x,c,a];grind
theorem U0(h:∀x,ev p x=0)(i:Nat):cf p i=0:=by
 induction p generalizing i with
 |nil=>rfl
 |cons c t l=>
  have b:c=0:=by have:=h 0;rw[ev]at this;grind
  have d:∀x,ev t x=0:=λx=>UZ (m:=1) (λn o=>by
   have e:=h (n:Rat);rw[ev,b]at e;have f:(n:Rat)≠0:=λg=>by
    have j:(n:Rat)=((0:Nat):Rat):=g;have:=Rat.natCast_inj.1 j;omega
   have k:(n:Rat)*ev t n=0:=by grind
   rcases Fm.1 k with a|a
   . exact absurd a f
   . exact a) x
  cases i with
  |zero=>rw[Y5];exact b
  |succ i=>rw[Yp];exact l d i
def EM:List Rat->List Rat->List Rat
 |[],q=>q
 |p,[]=>p
 |c::t,d::s=>(c+d)::EM t s
def YA(a:Rat)(p:List Rat):List Rat:=p.map λc=>c*a
def Ey:List Rat->List Rat->List Rat
 |[],_=>[]
 |c::t,q=>EM (YA c q) (0::Ey t q)
theorem XD(p q:List Rat)(i:Nat):cf (EM p q) i=cf p i+cf q i:=by
 induction p generalizing q i with
 |nil=>rw[EM,YI];grind
 |cons c t a=>
  cases q with
  |nil=>
   rw[EM,YI]
   . grind
   . intro h;cases h
  |cons d s=>
   rw[EM];cases i with
   |zero=>simp[cf]
   |succ i=>rw[Yp,Yp,Yp,a]
theorem Xq(a:Rat)(p:List Rat)(i:Nat):cf (YA a p) i=cf p i*a:=by
 unfold cf YA;rw[CP];cases p[i]? with
 |none=>simp
 |some c=>rfl
theorem Hr(p q:List Rat)(x:Rat):ev (EM p q) x=ev p x+ev q x:=by
 induction p generalizing q with
 |nil=>rw[EM,ev];grind
 |cons c t a=>
  cases q with
  |nil=>
   rw[EM]
   . rw[show ev [] x=0 from rfl];grind
   . intro h;cases h
  |cons d s=>rw[EM,ev,ev,ev,a];grind
theorem XE(a:Rat)(p:List Rat)(x:Rat):ev (YA a p) x=ev p x*a:=by
 induction p with
 |nil=>simp[YA,ev]
 |cons c t b=>
  rw[show YA a (c::t)=(c*a)::YA a t from rfl,ev,ev,b];grind
theorem Ng(p q:List Rat)(x:Rat):ev (Ey p q) x=ev p x*ev q x:=by
 induction p with
 |nil=>rw[Ey,ev];grind
 |cons c t a=>rw[Ey,Hr,XE,ev,ev,a];grind
theorem U1(p q:List Rat)(x:Rat):dv (EM p q) x=dv p x+dv q x:=by
 induction p generalizing q with
 |nil=>rw[EM,dv];grind
 |cons c t a=>
  cases q with
  |nil=>
   rw[EM]
   . rw[show dv [] x=0 from rfl];grind
   . intro h;cases h
  |cons d s=>rw[EM,dv,dv,dv,a,Hr];grind
theorem U2(a:Rat)(p:List Rat)(x:Rat):dv (YA a p) x=dv p x*a:=by
 induction p with
 |nil=>simp[YA,dv]
 |cons c t b=>
  rw[show YA a (c::t)=(c*a)::YA a t from rfl,dv,dv,b,XE];grind
theorem U3(p q:List Rat)(x:Rat):dv (Ey p q) x=dv p x*ev q x+ev p x*dv q x:=by
 induction p with
 |nil=>rw[Ey,dv,ev];grind
 |cons c t a=>rw[Ey,U1,U2,dv,dv,ev,a,Ng];grind
theorem LD(h:∀x,ev p x=ev q x):Jc p=Jc q:=by
 have a:∀i,cf (EM p (YA (-1) q)) i=0:=U0 (λx=>by rw[Hr,XE,h x];grind);refine YG λi=>?_;have:=a i;rw[XD,Xq]at this;grind
def sumN:Nat->(Nat->Rat)->Rat
 |0,_=>0
 |n+1,f=>sumN n f+f n
theorem U4{g:Nat->Rat}(h:∀k,k<n->f k=g k):sumN n f=sumN n g:=by
 induction n with
 |zero=>rfl
 |succ n a=>rw[sumN,sumN,a λk b=>h k O,h n O]
theorem Nh(h:∀k,k<n->f k=0):sumN n f=0:=by
 induction n with
 |zero=>rfl
 |succ n a=>rw[sumN,a λk b=>h k O,h n O];grind
theorem U5(n:Nat)(f:Nat->Rat):sumN (n+1) f=f 0+sumN n (λk=>f (k+1)):=by
 induction n with
 |zero=>simp[sumN];grind
 |succ n a=>rw[sumN,a,sumN];grind
def conv(p q:List Rat)(n k:Nat):Rat:=sumN n λi=>if i<=k then cf p i*cf q (k-i)else 0
theorem I8(p q:List Rat)(k:Nat):cf (Ey p q) k=conv p q p.length k:=by
 induction p generalizing k with
 |nil=>rfl
 |cons c t b=>
  rw[Ey,XD,Xq,conv,An,U5];rw[BG (AC _),Y5,Fg];have e:cf (0::Ey t q) k=sumN t.length (λi=>if i+1<=k then cf (c::t) (i+1)*cf q (k-(i+1))else 0):=by
   cases k with
   |zero=>
    rw[Y5,Nh];intro i a;rw[BC O]
   |succ k=>
    rw[Yp,b,conv];refine U4 λi a=>?_;by_cases h:i<=k
    . rw[BG h,BG O,Yp,show k+1-(i+1)=k-i from by omega]
    . rw[BC h,BC O]
  rw[e];grind
theorem Pq(p q:List Rat)(h:p.length<=n):conv p q n k=conv p q p.length k:=by
 induction n with
 |zero=>rw[show p.length=0 from by omega]
 |succ n b=>
  by_cases a:p.length=n+1
  . rw[a]
  . rw[<-b O];show conv p q n k+_=_
    dsimp only;rw[JZ (show p.length<=n from by omega)];split<;>grind
theorem U6(p q:List Rat)(h:k+1<=n):conv p q n k=conv p q (k+1) k:=by
 induction n with
 |zero=>omega
 |succ n b=>
  by_cases a:k+1=n+1
  . rw[a]
  . rw[<-b O];show conv p q n k+_=_
    dsimp only;rw[BC O];grind
theorem U7(h:p.length+q.length<=k+1):cf (Ey p q) k=0:=by
 rw[I8];refine Nh λi a=>?_;split
 . rw[JZ (p:=q) O];grind
 . rfl
theorem Ni(p q:List Rat)(m n:Nat)(hp:p.length=m+1)(hq:q.length=n+1):cf (Ey p q) (m+n)=cf p m*cf q n:=by
 rw[I8,hp,conv,sumN,BG O,show m+n-m=n from by omega];rw[Nh]
 . grind
 . intro i a;split
   . rw[JZ (p:=q) O];grind
   . rfl
theorem Pr(hp:Jc p=p)(hq:Jc q=q)(d:p≠[])(e:q≠[]):(Jc (Ey p q)).length=p.length+q.length-1:=by
 have f:=Jv hp d;have g:=Jv hq e;have l1:0<p.length:=Ah.2 d;have l2:0<q.length:=Ah.2 e;have i:=Ni p q (p.length-1) (q.length-1) O O;have b:cf (Ey p q) (p.length-1+(q.length-1))≠0:=by
  rw[i];intro c;rcases Fm.1 c with a|a
  . exact f a
  . exact g a
 have c:(Jc (Ey p q)).length<=p.length+q.length-1:=Nf λj k=>U7 O;rcases AR (Jc (Ey p q)).length (p.length+q.length-1)with a|a
 . rw[<-JX]at b;exact absurd (JZ O) b
 . omega
def I9(p:List Rat):List Rat:=(List.range (p.length-1)).map λi=>cf p (i+1)*((i+1:Nat):Rat)
theorem Jx(p:List Rat)(i:Nat):cf (I9 p) i=cf p (i+1)*((i+1:Nat):Rat):=by
 unfold I9;rw[L4];split
 . rfl
 . rw[JZ O];grind
theorem U8(p:List Rat)(x:Rat):ev (I9 p) x=dv p x:=by
 induction p with
 |nil=>rfl
 |cons c t a=>
  have e:∀i,cf (I9 (c::t)) i=cf (EM t (0::I9 t)) i:=λi=>by
   rw[Jx,XD,Yp];cases i with
   |zero=>rw[Y5];grind
   |succ i=>rw[Yp,Jx];grind
  rw[LC e,Hr,ev,a,dv];grind
theorem U9(p:List Rat):EM p []=p:=by cases p<;>rfl
theorem Ps{u v a b:List Rat}(hq:Jc q=q)(r:q≠[])(s:Jc u=u)(t:Jc a=a)(w:Jc v=v)(y:Jc b=b)(C:v.length<q.length)(D:b.length<q.length)
(h:∀x,ev q x*ev u x+ev v x=ev q x*ev a x+ev b x):u=a/\v=b:=by
 obtain⟨d,g⟩:=ex (Jc (EM u (YA (-1) a)));have k:Jc d=d:=by rw[<-g,Yr]
 have e:∀x,ev d x=ev u x-ev a x:=λx=>by rw[<-g,XR,Hr,XE];grind
 have l:∀x,ev (Ey d q) x=ev (EM b (YA (-1) v)) x:=λx=>by
  rw[Ng,Hr,XE,e];have:=h x;grind
 have o:=LD l;have z:(Jc (EM b (YA (-1) v))).length<q.length:=by
  refine Ck (Nf (n:=q.length-1) λj B=>?_) O;rw[XD,Xq,JZ O,JZ O];grind
 have i:d=[]:=by
  by_cases c:d=[]
  . exact c
  . have p:=Pr k hq c r;have A:0<d.length:=Ah.2 c;rw[o]at p;omega
 have m:∀x,ev u x=ev a x:=λx=>by
  have:=e x;rw[i,show ev [] x=0 from rfl]at this;grind
 have f:u=a:=by rw[<-s,<-t];exact LD m
 refine⟨f,?_⟩;rw[<-w,<-y];exact LD λx=>by
  have:=h x;rw[f]at this;grind
def Dn(i:Nat)(q:List Rat):List Rat:=List.replicate i 0++q
theorem KA(i:Nat)(q:List Rat)(k:Nat):cf (Dn i q) k=if i<=k then cf q (k-i)else 0:=by
 unfold cf Dn;by_cases h:k<i
 . rw[AN (by simpa using h),BC O,List.getElem?_replicate];split<;>rfl
 . rw[AD si,BG O];simp
theorem L6(i:Nat)(q:List Rat)(x:Rat):ev (Dn i q) x=x^i*ev q x:=by
 induction i with
 |zero=>rw[show Dn 0 q=q from rfl];grind
 |succ i a=>
  rw[show Dn (i+1) q=0::Dn i q from rfl,ev,a];grind
def YT(z:List Rat)(i:Nat)(a:Rat)(q:List Rat):Nat->List Rat
 |0=>z
 |j+1=>(YT z i a q j).set (i+j) (cf (YT z i a q j) (i+j)+a*cf q j)
theorem YJ(z:List Rat)(i:Nat)(a:Rat)(q:List Rat)(j:Nat):(YT z i a q j).length=z.length:=by
 induction j with
 |zero=>rfl
 |succ j b=>rw[YT,Cx,b]
theorem VA(z:List Rat)(i:Nat)(a:Rat)(q:List Rat)(j k:Nat)(h:i+j<=z.length):cf (YT z i a q j) k=cf z k+(if i<=k/\k<i+j then a*cf q (k-i)else 0):=by
 induction j with
 |zero=>rw[YT,BC O];grind
 |succ j b=>
  have b:=b O;rw[YT,XU _ _ _ _ (by rw[YJ];omega)];by_cases c:k=i+j
  . subst c;rw[BG rfl,b,BC O,BG O,show i+j-i=j from by omega];grind
  . rw[BC c,b];by_cases d:i<=k/\k<i+j
    . rw[BG d,BG O]
    . rw[BC d,BC O]
theorem Nj(z:List Rat)(i:Nat)(a:Rat)(q:List Rat)(k:Nat)(h:i+q.length<=z.length):cf (YT z i a q q.length) k=cf z k+a*cf (Dn i q) k:=by
 rw[VA _ _ _ _ _ _ h,KA];by_cases b:i<=k
 . by_cases c:k<i+q.length
   . rw[BG ⟨b,c⟩,BG b]
   . rw[BC O,BG b,JZ (p:=q) O];grind
 . rw[BC O,BC b];grind
theorem VB(z:List Rat)(i:Nat)(a:Rat)(q:List Rat)(x:Rat)(h:i+q.length<=z.length):ev (YT z i a q q.length) x=ev z x+a*(x^i*ev q x):=by
 have e:∀k,cf (YT z i a q q.length) k=cf (EM z (YA a (Dn i q))) k:=λk=>by
  rw[Nj _ _ _ _ _ h,XD,Xq];grind
 rw[LC e,Hr,XE,L6];grind
def YN(p q:List Rat)(n:Nat):Nat->List Rat
 |0=>List.replicate n 0
 |i+1=>YT (YN p q n i) i (cf p i) q q.length
theorem Nk(p q:List Rat)(n i:Nat):(YN p q n i).length=n:=by
 induction i with
 |zero=>rw[YN,Av]
 |succ i a=>rw[YN,YJ,a]
theorem Nl(p q:List Rat)(n i k:Nat)(h:i=0\/i+q.length<=n+1):cf (YN p q n i) k=conv p q i k:=by
 induction i with
 |zero=>rw[YN,JW];rfl
 |succ i a=>
  rw[YN,Nj _ _ _ _ _ (by rw[Nk];omega),a O,KA];show _=conv p q i k+_
  dsimp only;split<;>grind
def JJ(p q:List Rat)(n m:Nat):Nat->List Rat × List Rat
 |0=>(List.replicate m 0,p)
 |k+1=>
  let s:=JJ p q n m k
  let i:=m-(k+1)
  let c:=cf s.2 (i+n)/cf q n
  (s.1.set i c,YT s.2 i (-c) q q.length)
theorem Xe(p q:List Rat)(n m k:Nat):(JJ p q n m k).1.length=m/\(JJ p q n m k).2.length=p.length:=by
 induction k with
 |zero=>exact⟨Av,rfl⟩
 |succ k a=>rw[JJ];exact⟨by rw[Cx];exact a.1,by rw[YJ];exact a.2⟩
theorem VC(p:List Rat)(i:Nat)(c:Rat)(x:Rat)(d:i<p.length)(b:cf p i=0):ev (p.set i c) x=ev p x+c*x^i:=by
 have e:∀k,cf (p.set i c) k=cf (EM p (Dn i [c])) k:=λk=>by
  rw[XU _ _ _ _ d,XD,KA];by_cases h:k=i
  . subst h;rw[BG rfl,BG (Aa _),b,A6,Y5];grind
  . rw[BC h];by_cases a:i<=k
    . rw[BG a,JZ (p:=[c]) si];grind
    . rw[BC a];grind
 rw[LC e,Hr,L6];simp[ev];grind
theorem Pt(p q:List Rat)(n m:Nat)(hq:q.length=n+1)(hl:cf q n≠0)(v:m+n=p.length):∀k,k<=m->
 (∀x,ev p x=ev q x*ev (JJ p q n m k).1 x+ev (JJ p q n m k).2 x)/\(∀j,j<m-k->cf (JJ p q n m k).1 j=0)/\(∀j,m-k+n<=j->cf (JJ p q n m k).2 j=0):=by
 intro k;induction k with
 |zero=>
  intro _;refine⟨λx=>?_,λj _=>JW _ _,λj e=>JZ (by show p.length<=j;omega)⟩;rw[JJ];dsimp only;rw[LB (JW m)];grind
 |succ k r=>
  intro u;obtain⟨f,b,g⟩:=r O;obtain⟨l1,l2⟩:=Xe p q n m k;rw[JJ];dsimp only;generalize hs:JJ p q n m k=s at *;obtain⟨i,o⟩:=ex (m-(k+1));rw[o];obtain⟨c,d⟩:=ex (cf s.2 (i+n)/cf q n);rw[d];have a:i+q.length<=s.2.length:=O
  have t:c*cf q n=cf s.2 (i+n):=by rw[<-d];exact Cb hl
  refine⟨λx=>?_,λj e=>?_,λj e=>?_⟩
  . rw[VC _ _ _ _ O (b i O),VB _ _ _ _ _ a,f x];grind
  . rw[XU _ _ _ _ O,BC O];exact b j O
  . rw[Nj _ _ _ _ _ a,KA,BG O];by_cases l:j=i+n
    . subst l;rw[show i+n-i=n from by omega];grind
    . rw[g j O,JZ (p:=q) O];grind
def JM(p q:List Rat):List Rat:=Jc (JJ p q (q.length-1) (p.length-(q.length-1)) (p.length-(q.length-1))).1
def J7(p q:List Rat):List Rat:=Jc (JJ p q (q.length-1) (p.length-(q.length-1)) (p.length-(q.length-1))).2
theorem YU(p q:List Rat)(hq:Jc q=q)(a:q≠[]):(∀x,ev p x=ev q x*ev (JM p q) x+ev (J7 p q) x)/\(J7 p q).length<q.length/\Jc (JM p q)=JM p q/\Jc (J7 p q)=J7 p q:=by
 have l1:0<q.length:=Ah.2 a;refine⟨λx=>?_,?_,Yr _,Yr _⟩
 . unfold JM J7;rw[XR,XR];by_cases h:q.length-1<=p.length
   . exact(Pt p q (q.length-1) (p.length-(q.length-1)) O (Jv hq a) O _ (Aa _)).1 x
   . rw[show p.length-(q.length-1)=0 from by omega,JJ];dsimp only;rw[LB (JW 0)];grind
 . unfold J7;refine Ck (Nf (n:=q.length-1) λj b=>?_) O;by_cases h:q.length-1<=p.length
   . exact(Pt p q (q.length-1) (p.length-(q.length-1)) O (Jv hq a) O _ (Aa _)).2.2 j O
   . rw[show p.length-(q.length-1)=0 from by omega,JJ];exact JZ (by dsimp only;omega)
def XV(p q:List Rat):List Rat:=Jc (EM p q)
def JP(p q:List Rat):List Rat:=Jc (EM p (YA (-1) q))
def JB(p q:List Rat):List Rat:=Jc (Ey p q)
def Je(p:List Rat):List Rat:=Jc (I9 p)
theorem X3(p q:List Rat):Jc (XV p q)=XV p q:=Yr _
theorem Ys(p q:List Rat):Jc (JP p q)=JP p q:=Yr _
theorem J4(p q:List Rat):Jc (JB p q)=JB p q:=Yr _
theorem JE(p:List Rat):Jc (Je p)=Je p:=Yr _
theorem XF(p q:List Rat)(x:Rat):ev (XV p q) x=ev p x+ev q x:=by unfold XV;rw[XR,Hr]
theorem Hs(p q:List Rat)(x:Rat):ev (JP p q) x=ev p x-ev q x:=by unfold JP;rw[XR,Hr,XE];grind
theorem Jn(p q:List Rat)(x:Rat):ev (JB p q) x=ev p x*ev q x:=by unfold JB;rw[XR,Ng]
theorem L7(p:List Rat)(x:Rat):ev (Je p) x=dv p x:=by unfold Je;rw[XR,U8]
theorem Pv(p q:List Rat)(i:Nat):cf (XV p q) i=cf p i+cf q i:=by unfold XV;rw[JX,XD]
theorem LE(p q:List Rat)(i:Nat):cf (JP p q) i=cf p i-cf q i:=by unfold JP;rw[JX,XD,Xq];grind
theorem VD(p q:List Rat):(EM p q).length=max p.length q.length:=by
 induction p generalizing q with
 |nil=>rw[EM];simp
 |cons c t a=>
  cases q with
  |nil=>rw[U9];simp
  |cons d s=>rw[EM,An,a,An,An];omega
theorem VE(p q:List Rat):(XV p q).length<=max p.length q.length:=by
 have:=JG (EM p q);rw[VD]at this;exact this
theorem Ez(hp:Jc p=p)(hq:Jc q=q)(h:∀x,ev p x=ev q x):p=q:=by rw[<-hp,<-hq];exact LD h
theorem VF(p q:List Rat):Je (JB p q)=XV (JB (Je p) q) (JB p (Je q)):=by
 refine Ez (JE _) (X3 _ _) λx=>?_;rw[L7,XF,Jn,Jn,L7,L7,<-U3];exact UX (λi=>by unfold JB;rw[JX]) x
