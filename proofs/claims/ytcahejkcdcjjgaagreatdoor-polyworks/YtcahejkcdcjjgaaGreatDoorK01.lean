import Derived.Test.YtcahejkcdcjjgaaGreatDoorK00
set_option maxRecDepth 100000
set_option maxHeartbeats 16000000
namespace Go.Proofs.YtcahejkcdcjjgaaGreatDoor
def cf(p:List Rat)(i:Nat):Rat:=p[i]?.getD 0
theorem Y2(i:Nat):cf [] i=0:=by simp[cf]
theorem Y7(c:Rat)(t:List Rat):cf (c::t) 0=c:=by simp[cf]
theorem Yu(c:Rat)(t:List Rat)(i:Nat):cf (c::t) (i+1)=cf t i:=by simp[cf]
theorem J4{p:List Rat}{i:Nat}(h:p.length≤i):cf p i=0:=by simp[cf,List.getElem?_eq_none h]
theorem Juo{p:List Rat}{i:Nat}(h:i<p.length):cf p i=p[i]:=by simp[cf,List.getElem?_eq_getElem h]
theorem Jiv(p:List Rat)(c:Rat)(i:Nat):cf (p++[c]) i=if i=p.length then c else cf p i:=by
 unfold cf;by_cases h:i<p.length
 · rw[AL h,if_neg (by omega)]
 · rw[AB (by omega)];by_cases h2:i=p.length
   · rw[if_pos h2,h2];simp
   · rw[if_neg h2,Aq (by simp;omega),Aq (by omega)]
theorem XC(p:List Rat)(k:Nat)(c:Rat)(i:Nat)(hk:k<p.length):cf (p.set k c) i=if i=k then c else cf p i:=by
 unfold cf;by_cases h:i=k
 · subst h;rw[if_pos rfl,AY hk];rfl
 · rw[if_neg h,AO (fun e=>h e.symm)]
theorem J3(n:Nat)(i:Nat):cf (List.replicate n 0) i=0:=by
 unfold cf;rw[List.getElem?_replicate];split<;>rfl
theorem Jiw(n:Nat)(f:Nat→Rat)(i:Nat):cf ((List.range n).map f) i=if i<n then f i else 0:=by
 unfold cf;rw[CL];by_cases h:i<n
 · rw[List.getElem?_range h,if_pos h];rfl
 · rw[Aq (by simp;omega),if_neg h];rfl
theorem Jix(p:List Rat)(n i:Nat):cf (p.take n) i=if i<n then cf p i else 0:=by
 unfold cf;rw[Fc];split<;>rfl
def Jh:List Rat→List Rat
 |[]=>[]
 |c::t=>match Jh t with
  |[]=>if c=0 then []else [c]
  |d::s=>c::d::s
theorem J8(p:List Rat)(i:Nat):cf (Jh p) i=cf p i:=by
 induction p generalizing i with
 |nil=>rfl
 |cons c t ih=>
  have h0:=ih;rw[Jh];split
  · rename_i h;rw[h]at h0;cases i with
    |zero=>split<;>simp_all [cf]
    |succ i=>
     rw[Yu,←h0 i,Y2];split
     · rfl
     · rw[Yu,Y2]
  · rename_i d s h;rw[←h];cases i with
    |zero=>rfl
    |succ i=>rw[Yu,Yu,h0]
theorem Jcy{p:List Rat}(h:∀i,cf p i=0):Jh p=[]:=by
 induction p with
 |nil=>rfl
 |cons c t ih=>
  have h1:=ih (fun i=>by rw[←Yu c t i];exact h (i+1));have h2:c=0:=by rw[←Y7 c t];exact h 0
  rw[Jh,h1];show(if c=0 then []else [c])=[];rw[if_pos h2]
theorem YD{p q:List Rat}(h:∀i,cf p i=cf q i):Jh p=Jh q:=by
 induction p generalizing q with
 |nil=>rw[Jcy (p:=q) (fun i=>by rw[←h i,Y2])];rfl
 |cons c t ih=>
  cases q with
  |nil=>rw[Jcy (p:=c::t) (fun i=>by rw[h i,Y2])];rfl
  |cons d s=>
   have h1:c=d:=by have:=h 0;rwa[Y7,Y7]at this
   have h2:=ih (q:=s) (fun i=>by have:=h (i+1);rwa[Yu,Yu]at this);rw[Jh,Jh,h1,h2]
theorem Xe(p:List Rat):Jh (Jh p)=Jh p:=YD (J8 p)
theorem Jz(p:List Rat):(Jh p).length≤p.length:=by
 induction p with
 |nil=>exact Aa _
 |cons c t ih=>
  rw[Jh];split
  · split<;>simp
  · rename_i d s h;rw[h]at ih;simp only[Al]at ih ⊢;omega
theorem Yo{p:List Rat}(h:Jh p=p)(h0:p≠[]):cf p (p.length-1)≠0:=by
 induction p with
 |nil=>exact absurd rfl h0
 |cons c t ih=>
  rw[Jh]at h;split at h
  · rename_i h1;split at h
    · cases h
    · rename_i h2;simp only[C6,true_and]at h;subst h;simpa[cf]using h2
  · rename_i d s h1;simp only[C6,true_and]at h;have h2:Jh t=t:=by rw[h1,h]
    have h3:=ih h2 (by rw[←h];simp);have e:(c::t).length-1=(t.length-1)+1:=by rw[←h];simp
    rw[e,Yu];exact h3
theorem Jiy{p:List Rat}(h:p=[]∨cf p (p.length-1)≠0):Jh p=p:=by
 induction p with
 |nil=>rfl
 |cons c t ih=>
  rcases h with h|h
  · cases h
  · cases t with
    |nil=>rw[Jh];show(if c=0 then []else [c])=[c];rw[if_neg (by simpa[cf]using h)]
    |cons d s=>
     have e:(c::d::s).length-1=((d::s).length-1)+1:=by simp
     rw[e,Yu]at h;rw[Jh,ih (Or.inr h)]
theorem Jh2{p:List Rat}{n:Nat}(hn:n≤p.length)(h1:n=0∨cf p (n-1)≠0)(h2:∀j,n≤j→cf p j=0):Jh p=p.take n:=by
 have e:Jh p=Jh (p.take n):=YD fun i=>by
  rw[Jix];split
  · rfl
  · exact h2 i (by omega)
 rw[e];refine Jiy ?_;rcases h1 with h1|h1
 · left;rw[h1];rfl
 · by_cases h0:n=0
   · left;rw[h0];rfl
   · right
     rw[Ag,Cv hn,Jix,if_pos (by omega)];exact h1
theorem Jaa{p:List Rat}{n:Nat}(h:∀j,n≤j→cf p j=0):(Jh p).length≤n:=by
 rcases AC n (Jh p).length with h1|h1
 · have h2:=Yo (Xe p) (by intro h3;rw[h3]at h1;simp at h1);rw[J8]at h2;exact absurd (h _ (by omega)) h2
 · exact h1
def ev:List Rat→Rat→Rat
 |[],_=>0
 |c::t,x=>c+x*ev t x
theorem Jfp{p:List Rat}(h:∀i,cf p i=0)(x:Rat):ev p x=0:=by
 induction p with
 |nil=>rfl
 |cons c t ih=>
  have h1:=ih (fun i=>by rw[←Yu c t i];exact h (i+1));have h2:c=0:=by rw[←Y7 c t];exact h 0
  rw[ev,h1,h2];grind
theorem Jlt{p q:List Rat}(h:∀i,cf p i=cf q i)(x:Rat):ev p x=ev q x:=by
 induction p generalizing q with
 |nil=>rw[Jfp (p:=q) (fun i=>by rw[←h i,Y2])];rfl
 |cons c t ih=>
  cases q with
  |nil=>rw[Jfp (p:=c::t) (fun i=>by rw[h i,Y2])];rfl
  |cons d s=>
   have h1:c=d:=by have:=h 0;rwa[Y7,Y7]at this
   have h2:=ih (q:=s) (fun i=>by have:=h (i+1);rwa[Yu,Yu]at this);rw[ev,ev,h1,h2]
theorem Jbo(p:List Rat)(x:Rat):ev (Jh p) x=ev p x:=Jlt (J8 p) x
def dv:List Rat→Rat→Rat
 |[],_=>0
 |_::t,x=>ev t x+x*dv t x
def Jiz:List Rat→Rat→List Rat
 |[],_=>[]
 |_::t,a=>match t with
  |[]=>[]
  |d::s=>ev (d::s) a::Jiz (d::s) a
theorem Jjt(p:List Rat)(a:Rat):(Jiz p a).length=p.length-1:=by
 induction p with
 |nil=>rfl
 |cons c t ih=>
  cases t with
  |nil=>rfl
  |cons d s=>
   rw[Jiz,Al,ih];simp
theorem Jm2(p:List Rat)(a x:Rat):ev p x=ev p a+(x-a)*ev (Jiz p a) x:=by
 induction p with
 |nil=>simp[ev,Jiz];grind
 |cons c t ih=>
  cases t with
  |nil=>simp[ev,Jiz];grind
  |cons d s=>
   rw[Jiz];generalize hq:d::s=q at *;rw[ev,ev,ev,ih];grind
theorem Jr9{p:List Rat}{m:Nat}(h:∀n:Nat,m≤n→ev p (n:Rat)=0)(x:Rat):ev p x=0:=by
 obtain⟨k,hk⟩:=ex (p.length);induction k generalizing p m with
 |zero=>
  have:p=[]:=Ao hk;rw[this];rfl
 |succ k ih=>
  have h0:=h m (Aa _);have h1:∀n:Nat,m+1≤n→ev (Jiz p m) (n:Rat)=0:=fun n hn=>by
   have h2:=Jm2 p (m:Rat) (n:Rat);rw[h n (by omega),h0]at h2;have h3:((n:Rat)-(m:Rat))≠0:=by
    intro h4;have h5:(n:Rat)=(m:Rat):=by grind
    have:=Rat.natCast_inj.1 h5;omega
   have h6:((n:Rat)-(m:Rat))*ev (Jiz p m) n=0:=by grind
   rcases Rat.mul_eq_zero.1 h6 with h7|h7
   · exact absurd h7 h3
   · exact h7
  have h2:=ih h1 (by rw[Jjt,hk];rfl);rw[Jm2 p (m:Rat) x,h0,h2];grind
theorem Jsa{p:List Rat}(h:∀x,ev p x=0)(i:Nat):cf p i=0:=by
 induction p generalizing i with
 |nil=>rfl
 |cons c t ih=>
  have h0:c=0:=by have:=h 0;rw[ev]at this;grind
  have h1:∀x,ev t x=0:=fun x=>Jr9 (m:=1) (fun n hn=>by
   have h2:=h (n:Rat);rw[ev,h0]at h2;have h3:(n:Rat)≠0:=fun h4=>by
    have h5:(n:Rat)=((0:Nat):Rat):=h4;have:=Rat.natCast_inj.1 h5;omega
   have h6:(n:Rat)*ev t n=0:=by grind
   rcases Rat.mul_eq_zero.1 h6 with h7|h7
   · exact absurd h7 h3
   · exact h7) x
  cases i with
  |zero=>rw[Y7];exact h0
  |succ i=>rw[Yu];exact ih h1 i
def Jab:List Rat→List Rat→List Rat
 |[],q=>q
 |p,[]=>p
 |c::t,d::s=>(c+d)::Jab t s
def YE(a:Rat)(p:List Rat):List Rat:=p.map (fun c=>c*a)
def Jdi:List Rat→List Rat→List Rat
 |[],_=>[]
 |c::t,q=>Jab (YE c q) (0::Jdi t q)
theorem Y8(p q:List Rat)(i:Nat):cf (Jab p q) i=cf p i+cf q i:=by
 induction p generalizing q i with
 |nil=>rw[Jab,Y2];grind
 |cons c t ih=>
  cases q with
  |nil=>
   rw[Jab,Y2]
   · grind
   · intro h;cases h
  |cons d s=>
   rw[Jab];cases i with
   |zero=>simp[cf]
   |succ i=>rw[Yu,Yu,Yu,ih]
theorem YX(a:Rat)(p:List Rat)(i:Nat):cf (YE a p) i=cf p i*a:=by
 unfold cf YE;rw[CL];cases p[i]? with
 |none=>simp
 |some c=>rfl
theorem Jan(p q:List Rat)(x:Rat):ev (Jab p q) x=ev p x+ev q x:=by
 induction p generalizing q with
 |nil=>rw[Jab,ev];grind
 |cons c t ih=>
  cases q with
  |nil=>
   rw[Jab]
   · rw[show ev [] x=0 from rfl];grind
   · intro h;cases h
  |cons d s=>rw[Jab,ev,ev,ev,ih];grind
theorem XD(a:Rat)(p:List Rat)(x:Rat):ev (YE a p) x=ev p x*a:=by
 induction p with
 |nil=>simp[YE,ev]
 |cons c t ih=>
  rw[show YE a (c::t)=(c*a)::YE a t from rfl,ev,ev,ih];grind
theorem Jm3(p q:List Rat)(x:Rat):ev (Jdi p q) x=ev p x*ev q x:=by
 induction p with
 |nil=>rw[Jdi,ev];grind
 |cons c t ih=>rw[Jdi,Jan,XD,ev,ev,ih];grind
theorem Ji0{p q:List Rat}(h:∀x,ev p x=ev q x):Jh p=Jh q:=by
 have h1:∀i,cf (Jab p (YE (-1) q)) i=0:=Jsa (fun x=>by rw[Jan,XD,h x];grind);refine YD fun i=>?_;have:=h1 i;rw[Y8,YX]at this;grind
def sumN:Nat→(Nat→Rat)→Rat
 |0,_=>0
 |n+1,f=>sumN n f+f n
theorem Jlu{n:Nat}{f g:Nat→Rat}(h:∀k,k<n→f k=g k):sumN n f=sumN n g:=by
 induction n with
 |zero=>rfl
 |succ n ih=>rw[sumN,sumN,ih (fun k hk=>h k (by omega)),h n (by omega)]
theorem Je0{n:Nat}{f:Nat→Rat}(h:∀k,k<n→f k=0):sumN n f=0:=by
 induction n with
 |zero=>rfl
 |succ n ih=>rw[sumN,ih (fun k hk=>h k (by omega)),h n (by omega)];grind
theorem Jlv(n:Nat)(f:Nat→Rat):sumN (n+1) f=f 0+sumN n (fun k=>f (k+1)):=by
 induction n with
 |zero=>simp[sumN];grind
 |succ n ih=>rw[sumN,ih,sumN];grind
def conv(p q:List Rat)(n k:Nat):Rat:=sumN n (fun i=>if i≤k then cf p i*cf q (k-i)else 0)
theorem Jcz(p q:List Rat)(k:Nat):cf (Jdi p q) k=conv p q p.length k:=by
 induction p generalizing k with
 |nil=>rfl
 |cons c t ih=>
  rw[Jdi,Y8,YX,conv,Al,Jlv];rw[if_pos (AW _),Y7,CP];have e:cf (0::Jdi t q) k=sumN t.length (fun i=>if i+1≤k then cf (c::t) (i+1)*cf q (k-(i+1))else 0):=by
   cases k with
   |zero=>
    rw[Y7,Je0];intro i hi;rw[if_neg (by omega)]
   |succ k=>
    rw[Yu,ih,conv];refine Jlu fun i hi=>?_;by_cases h:i≤k
    · rw[if_pos h,if_pos (by omega),Yu,show k+1-(i+1)=k-i from by omega]
    · rw[if_neg h,if_neg (by omega)]
  rw[e];grind
theorem Jn2(p q:List Rat){n k:Nat}(h:p.length≤n):conv p q n k=conv p q p.length k:=by
 induction n with
 |zero=>rw[show p.length=0 from by omega]
 |succ n ih=>
  by_cases h1:p.length=n+1
  · rw[h1]
  · rw[←ih (by omega)];show conv p q n k+_=_
    dsimp only;rw[J4 (show p.length≤n from by omega)];split<;>grind
theorem Jpq(p q:List Rat){n k:Nat}(h:k+1≤n):conv p q n k=conv p q (k+1) k:=by
 induction n with
 |zero=>omega
 |succ n ih=>
  by_cases h1:k+1=n+1
  · rw[h1]
  · rw[←ih (by omega)];show conv p q n k+_=_
    dsimp only;rw[if_neg (by omega)];grind
theorem Jlw{p q:List Rat}{k:Nat}(h:p.length+q.length≤k+1):cf (Jdi p q) k=0:=by
 rw[Jcz];refine Je0 fun i hi=>?_;split
 · rw[J4 (p:=q) (by omega)];grind
 · rfl
theorem Jju(p q:List Rat)(m n:Nat)(hp:p.length=m+1)(hq:q.length=n+1):cf (Jdi p q) (m+n)=cf p m*cf q n:=by
 rw[Jcz,hp,conv,sumN,if_pos (by omega),show m+n-m=n from by omega];rw[Je0]
 · grind
 · intro i hi;split
   · rw[J4 (p:=q) (by omega)];grind
   · rfl
theorem Je1{p q:List Rat}(hp:Jh p=p)(hq:Jh q=q)(hp0:p≠[])(hq0:q≠[]):(Jh (Jdi p q)).length=p.length+q.length-1:=by
 have h1:=Yo hp hp0;have h2:=Yo hq hq0;have l1:0<p.length:=AH.2 hp0;have l2:0<q.length:=AH.2 hq0;have h3:=Jju p q (p.length-1) (q.length-1) (by omega) (by omega);have h4:cf (Jdi p q) (p.length-1+(q.length-1))≠0:=by
  rw[h3];intro h5;rcases Rat.mul_eq_zero.1 h5 with h6|h6
  · exact h1 h6
  · exact h2 h6
 have h5:(Jh (Jdi p q)).length≤p.length+q.length-1:=Jaa fun j hj=>Jlw (by omega);rcases AC (Jh (Jdi p q)).length (p.length+q.length-1)with h6|h6
 · rw[←J8]at h4;exact absurd (J4 (by omega)) h4
 · omega
theorem Jho(p:List Rat):Jab p []=p:=by cases p<;>rfl
theorem Ji1{q u v u' v':List Rat}(hq:Jh q=q)(hq0:q≠[])(hu:Jh u=u)(hu':Jh u'=u')(hv:Jh v=v)(hv':Jh v'=v')(lv:v.length<q.length)(lv':v'.length<q.length)
(h:∀x,ev q x*ev u x+ev v x=ev q x*ev u' x+ev v' x):u=u'∧v=v':=by
 obtain⟨d,hd⟩:=ex (Jh (Jab u (YE (-1) u')));have Qc:Jh d=d:=by rw[←hd,Xe]
 have Qa:∀x,ev d x=ev u x-ev u' x:=fun x=>by rw[←hd,Jbo,Jan,XD];grind
 have Qb:∀x,ev (Jdi d q) x=ev (Jab v' (YE (-1) v)) x:=fun x=>by
  rw[Jm3,Jan,XD,Qa];have:=h x;grind
 have h1:=Ji0 Qb;have h2:(Jh (Jab v' (YE (-1) v))).length<q.length:=by
  refine CJ (Jaa (n:=q.length-1) fun j hj=>?_) (by omega);rw[Y8,YX,J4 (by omega),J4 (by omega)];grind
 have Qd:d=[]:=by
  by_cases h3:d=[]
  · exact h3
  · have h4:=Je1 Qc hq h3 hq0;have h5:0<d.length:=AH.2 h3;rw[h1]at h4;omega
 have e1:∀x,ev u x=ev u' x:=fun x=>by
  have:=Qa x;rw[Qd,show ev [] x=0 from rfl]at this;grind
 have e2:u=u':=by rw[←hu,←hu'];exact Ji0 e1
 refine⟨e2,?_⟩;rw[←hv,←hv'];exact Ji0 fun x=>by
  have:=h x;rw[e2]at this;grind
def upR(i:Nat)(q:List Rat):List Rat:=List.replicate i 0++q
theorem Jdo(i:Nat)(q:List Rat)(k:Nat):cf (upR i q) k=if i≤k then cf q (k-i)else 0:=by
 unfold cf upR;by_cases h:k<i
 · rw[AL (by simpa using h),if_neg (by omega),List.getElem?_replicate];split<;>rfl
 · rw[AB (by simp;omega),if_pos (by omega)];simp
theorem Ji2(i:Nat)(q:List Rat)(x:Rat):ev (upR i q) x=x^i*ev q x:=by
 induction i with
 |zero=>rw[show upR 0 q=q from rfl];grind
 |succ i ih=>
  rw[show upR (i+1) q=0::upR i q from rfl,ev,ih];grind
def Yq(z:List Rat)(i:Nat)(a:Rat)(q:List Rat):Nat→List Rat
 |0=>z
 |j+1=>(Yq z i a q j).set (i+j) (cf (Yq z i a q j) (i+j)+a*cf q j)
theorem Yi(z:List Rat)(i:Nat)(a:Rat)(q:List Rat)(j:Nat):(Yq z i a q j).length=z.length:=by
 induction j with
 |zero=>rfl
 |succ j ih=>rw[Yq,Cs,ih]
theorem Jpr(z:List Rat)(i:Nat)(a:Rat)(q:List Rat)(j k:Nat)(h:i+j≤z.length):cf (Yq z i a q j) k=cf z k+(if i≤k∧k<i+j then a*cf q (k-i)else 0):=by
 induction j with
 |zero=>rw[Yq,if_neg (by omega)];grind
 |succ j ih=>
  have ih:=ih (by omega);rw[Yq,XC _ _ _ _ (by rw[Yi];omega)];by_cases h1:k=i+j
  · subst h1;rw[if_pos rfl,ih,if_neg (by omega),if_pos (by omega),show i+j-i=j from by omega];grind
  · rw[if_neg h1,ih];by_cases h2:i≤k∧k<i+j
    · rw[if_pos h2,if_pos (by omega)]
    · rw[if_neg h2,if_neg (by omega)]
theorem Jbp(z:List Rat)(i:Nat)(a:Rat)(q:List Rat)(k:Nat)(h:i+q.length≤z.length):cf (Yq z i a q q.length) k=cf z k+a*cf (upR i q) k:=by
 rw[Jpr _ _ _ _ _ _ h,Jdo];by_cases h1:i≤k
 · by_cases h2:k<i+q.length
   · rw[if_pos ⟨h1,h2⟩,if_pos h1]
   · rw[if_neg (by omega),if_pos h1,J4 (p:=q) (by omega)];grind
 · rw[if_neg (by omega),if_neg h1];grind
theorem Jps(z:List Rat)(i:Nat)(a:Rat)(q:List Rat)(x:Rat)(h:i+q.length≤z.length):ev (Yq z i a q q.length) x=ev z x+a*(x^i*ev q x):=by
 have e:∀k,cf (Yq z i a q q.length) k=cf (Jab z (YE a (upR i q))) k:=fun k=>by
  rw[Jbp _ _ _ _ _ h,Y8,YX];grind
 rw[Jlt e,Jan,XD,Ji2];grind
def Yl(p q:List Rat)(n:Nat):Nat→List Rat
 |0=>List.replicate n 0
 |i+1=>Yq (Yl p q n i) i (cf p i) q q.length
theorem Jbq(p q:List Rat)(n i:Nat):(Yl p q n i).length=n:=by
 induction i with
 |zero=>rw[Yl,At]
 |succ i ih=>rw[Yl,Yi,ih]
theorem Jf7(p q:List Rat)(n i k:Nat)(h:i=0∨i+q.length≤n+1):cf (Yl p q n i) k=conv p q i k:=by
 induction i with
 |zero=>rw[Yl,J3];rfl
 |succ i ih=>
  rw[Yl,Jbp _ _ _ _ _ (by rw[Jbq];omega),ih (by omega),Jdo];show _=conv p q i k+_
  dsimp only;split<;>grind
def JI(p q:List Rat)(n m:Nat):Nat→List Rat × List Rat
 |0=>(List.replicate m 0,p)
 |k+1=>
  let s:=JI p q n m k
  let i:=m-(k+1)
  let c:=cf s.2 (i+n)/cf q n
  (s.1.set i c,Yq s.2 i (-c) q q.length)
theorem YF(p q:List Rat)(n m k:Nat):(JI p q n m k).1.length=m∧(JI p q n m k).2.length=p.length:=by
 induction k with
 |zero=>exact⟨At,rfl⟩
 |succ k ih=>rw[JI];exact⟨by rw[Cs];exact ih.1,by rw[Yi];exact ih.2⟩
theorem Jtz(p:List Rat)(i:Nat)(c:Rat)(x:Rat)(hi:i<p.length)(h0:cf p i=0):ev (p.set i c) x=ev p x+c*x^i:=by
 have e:∀k,cf (p.set i c) k=cf (Jab p (upR i [c])) k:=fun k=>by
  rw[XC _ _ _ _ hi,Y8,Jdo];by_cases h:k=i
  · subst h;rw[if_pos rfl,if_pos (Aa _),h0,A0,Y7];grind
  · rw[if_neg h];by_cases h1:i≤k
    · rw[if_pos h1,J4 (p:=[c]) (by simp;omega)];grind
    · rw[if_neg h1];grind
 rw[Jlt e,Jan,Ji2];simp[ev];grind
theorem Je9(p q:List Rat)(n m:Nat)(hq:q.length=n+1)(hl:cf q n≠0)(hm:m+n=p.length):∀k,k≤m→
 (∀x,ev p x=ev q x*ev (JI p q n m k).1 x+ev (JI p q n m k).2 x)∧(∀j,j<m-k→cf (JI p q n m k).1 j=0)∧(∀j,m-k+n≤j→cf (JI p q n m k).2 j=0):=by
 intro k;induction k with
 |zero=>
  intro _;refine⟨fun x=>?_,fun j _=>J3 _ _,fun j hj=>J4 (by show p.length≤j;omega)⟩;rw[JI];dsimp only;rw[Jfp (J3 m)];grind
 |succ k ih=>
  intro hk;obtain⟨h1,h2,h3⟩:=ih (by omega);obtain⟨l1,l2⟩:=YF p q n m k;rw[JI];dsimp only;generalize hs:JI p q n m k=s at *;obtain⟨i,hi⟩:=ex (m-(k+1));rw[hi];obtain⟨c,hc⟩:=ex (cf s.2 (i+n)/cf q n);rw[hc];have Qa:i+q.length≤s.2.length:=by omega
  have hcq:c*cf q n=cf s.2 (i+n):=by rw[←hc];exact Rat.div_mul_cancel hl
  refine⟨fun x=>?_,fun j hj=>?_,fun j hj=>?_⟩
  · rw[Jtz _ _ _ _ (by omega) (h2 i (by omega)),Jps _ _ _ _ _ Qa,h1 x];grind
  · rw[XC _ _ _ _ (by omega),if_neg (by omega)];exact h2 j (by omega)
  · rw[Jbp _ _ _ _ _ Qa,Jdo,if_pos (by omega)];by_cases h4:j=i+n
    · subst h4;rw[show i+n-i=n from by omega];grind
    · rw[h3 j (by omega),J4 (p:=q) (by omega)];grind
def Jaz(p q:List Rat):List Rat:=Jh (JI p q (q.length-1) (p.length-(q.length-1)) (p.length-(q.length-1))).1
def Jac(p q:List Rat):List Rat:=Jh (JI p q (q.length-1) (p.length-(q.length-1)) (p.length-(q.length-1))).2
theorem Jjv(p q:List Rat)(hq:Jh q=q)(hq0:q≠[]):(∀x,ev p x=ev q x*ev (Jaz p q) x+ev (Jac p q) x)∧(Jac p q).length<q.length∧Jh (Jaz p q)=Jaz p q∧Jh (Jac p q)=Jac p q:=by
 have l1:0<q.length:=AH.2 hq0;refine⟨fun x=>?_,?_,Xe _,Xe _⟩
 · unfold Jaz Jac;rw[Jbo,Jbo];by_cases h:q.length-1≤p.length
   · exact(Je9 p q (q.length-1) (p.length-(q.length-1)) (by omega) (Yo hq hq0) (by omega) _ (Aa _)).1 x
   · rw[show p.length-(q.length-1)=0 from by omega,JI];dsimp only;rw[Jfp (J3 0)];grind
 · unfold Jac;refine CJ (Jaa (n:=q.length-1) fun j hj=>?_) (by omega);by_cases h:q.length-1≤p.length
   · exact(Je9 p q (q.length-1) (p.length-(q.length-1)) (by omega) (Yo hq hq0) (by omega) _ (Aa _)).2.2 j (by omega)
   · rw[show p.length-(q.length-1)=0 from by omega,JI];exact J4 (by dsimp only;omega)
def XV(p q:List Rat):List Rat:=Jh (Jab p q)
def XR(p q:List Rat):List Rat:=Jh (Jab p (YE (-1) q))
def Xk(p q:List Rat):List Rat:=Jh (Jdi p q)
theorem Ja5(p q:List Rat):Jh (XV p q)=XV p q:=Xe _
theorem X8(p q:List Rat):Jh (XR p q)=XR p q:=Xe _
theorem Ja6(p q:List Rat):Jh (Xk p q)=Xk p q:=Xe _
theorem Jsb(p q:List Rat)(x:Rat):ev (XV p q) x=ev p x+ev q x:=by unfold XV;rw[Jbo,Jan]
theorem Jsc(p q:List Rat)(x:Rat):ev (XR p q) x=ev p x-ev q x:=by unfold XR;rw[Jbo,Jan,XD];grind
theorem Jm4(p q:List Rat)(x:Rat):ev (Xk p q) x=ev p x*ev q x:=by unfold Xk;rw[Jbo,Jm3]
theorem Jfq(p q:List Rat)(i:Nat):cf (XV p q) i=cf p i+cf q i:=by unfold XV;rw[J8,Y8]
theorem Jc0(p q:List Rat)(i:Nat):cf (XR p q) i=cf p i-cf q i:=by unfold XR;rw[J8,Y8,YX];grind
theorem Jjw(p q:List Rat):(Jab p q).length=max p.length q.length:=by
 induction p generalizing q with
 |nil=>rw[Jab];simp
 |cons c t ih=>
  cases q with
  |nil=>rw[Jho];simp
  |cons d s=>rw[Jab,Al,ih,Al,Al];omega
theorem Jjx(p q:List Rat):(XV p q).length≤max p.length q.length:=by
 have:=Jz (Jab p q);rw[Jjw]at this;exact this
