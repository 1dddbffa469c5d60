import Derived.Test.YtakpoihdghihmaaGreatDoorL00
set_option maxRecDepth 100000
set_option maxHeartbeats 16000000
namespace Go.Proofs.YtakpoihdghihmaaGreatDoor
theorem BH:type_of% @if_pos:=@if_pos
theorem BE:type_of% @if_neg:=@if_neg
def cf(p:List Rat)(i:Nat):Rat:=p[i]?.getD 0
theorem YD(i:Nat):cf [] i=0:=by simp[cf]
theorem Yf(c:Rat)(t:List Rat):cf (c::t) 0=c:=by simp[cf]
theorem JI(c:Rat)(t:List Rat)(i:Nat):cf (c::t) (i+1)=cf t i:=by simp[cf]
theorem J8{p:List Rat}{i:Nat}(h:p.length≤i):cf p i=0:=by simp[cf,List.getElem?_eq_none h]
theorem OI{p:List Rat}{i:Nat}(h:i<p.length):cf p i=p[i]:=by simp[cf,List.getElem?_eq_getElem h]
theorem XG(p:List Rat)(k:Nat)(c:Rat)(i:Nat)(hk:k<p.length):cf (p.set k c) i=if i=k then c else cf p i:=by
 unfold cf;by_cases h:i=k
 · subst h;rw[BH rfl,A3 hk];rfl
 · rw[BE h,AN (fun e=>h e.symm)]
theorem JZ(n:Nat)(i:Nat):cf (List.replicate n 0) i=0:=by
 unfold cf;rw[List.getElem?_replicate];split<;>rfl
theorem Lt(n:Nat)(f:Nat→Rat)(i:Nat):cf ((List.range n).map f) i=if i<n then f i else 0:=by
 unfold cf;rw[Fm];by_cases h:i<n
 · rw[List.getElem?_range h,BH h];rfl
 · rw[AO (by simp;omega),BE h];rfl
theorem Lu(p:List Rat)(n i:Nat):cf (p.take n) i=if i<n then cf p i else 0:=by
 unfold cf;rw[Fe];split<;>rfl
def Jc:List Rat→List Rat
 |[]=>[]
 |c::t=>match Jc t with
  |[]=>if c=0 then []else [c]
  |d::s=>c::d::s
theorem J0(p:List Rat)(i:Nat):cf (Jc p) i=cf p i:=by
 induction p generalizing i with
 |nil=>rfl
 |cons c t ih=>
  have h0:=ih;rw[Jc];split
  · rename_i h;rw[h]at h0;cases i with
    |zero=>split<;>simp_all [cf]
    |succ i=>
     rw[JI,←h0 i,YD];split
     · rfl
     · rw[JI,YD]
  · rename_i d s h;rw[←h];cases i with
    |zero=>rfl
    |succ i=>rw[JI,JI,h0]
theorem Lv{p:List Rat}(h:∀i,cf p i=0):Jc p=[]:=by
 induction p with
 |nil=>rfl
 |cons c t ih=>
  have h1:=ih (fun i=>by rw[←JI c t i];exact h (i+1));have h2:c=0:=by rw[←Yf c t];exact h 0
  rw[Jc,h1];show(if c=0 then []else [c])=[];rw[BH h2]
theorem Gc{p q:List Rat}(h:∀i,cf p i=cf q i):Jc p=Jc q:=by
 induction p generalizing q with
 |nil=>rw[Lv (p:=q) (fun i=>by rw[←h i,YD])];rfl
 |cons c t ih=>
  cases q with
  |nil=>rw[Lv (p:=c::t) (fun i=>by rw[h i,YD])];rfl
  |cons d s=>
   have h1:c=d:=by have:=h 0;rwa[Yf,Yf]at this
   have h2:=ih (q:=s) (fun i=>by have:=h (i+1);rwa[JI,JI]at this);rw[Jc,Jc,h1,h2]
theorem JX(p:List Rat):Jc (Jc p)=Jc p:=Gc (J0 p)
theorem YB(p:List Rat):(Jc p).length≤p.length:=by
 induction p with
 |nil=>exact Aa _
 |cons c t ih=>
  rw[Jc];split
  · split<;>simp
  · rename_i d s h;rw[h]at ih;simp only[Ad]at ih ⊢;omega
theorem Jq{p:List Rat}(h:Jc p=p)(h0:p≠[]):cf p (p.length-1)≠0:=by
 induction p with
 |nil=>exact absurd rfl h0
 |cons c t ih=>
  rw[Jc]at h;split at h
  · rename_i h1;split at h
    · cases h
    · rename_i h2;simp only[List.cons.injEq,true_and]at h;subst h;simpa[cf]using h2
  · rename_i d s h1;simp only[List.cons.injEq,true_and]at h;have h2:Jc t=t:=by rw[h1,h]
    have h3:=ih h2 (by rw[←h];simp);have e:(c::t).length-1=(t.length-1)+1:=by rw[←h];simp
    rw[e,JI];exact h3
theorem YR{p:List Rat}(h:p=[]∨cf p (p.length-1)≠0):Jc p=p:=by
 induction p with
 |nil=>rfl
 |cons c t ih=>
  rcases h with h|h
  · cases h
  · cases t with
    |nil=>rw[Jc];show(if c=0 then []else [c])=[c];rw[BE (by simpa[cf]using h)]
    |cons d s=>
     have e:(c::d::s).length-1=((d::s).length-1)+1:=by simp
     rw[e,JI]at h;rw[Jc,ih (Or.inr h)]
theorem R6{p:List Rat}{n:Nat}(hn:n≤p.length)(h1:n=0∨cf p (n-1)≠0)(h2:∀j,n≤j→cf p j=0):Jc p=p.take n:=by
 have e:Jc p=Jc (p.take n):=Gc fun i=>by
  rw[Lu];split
  · rfl
  · exact h2 i (by omega)
 rw[e];refine YR ?_;rcases h1 with h1|h1
 · left;rw[h1];rfl
 · by_cases h0:n=0
   · left;rw[h0];rfl
   · right
     rw[Al,CJ hn,Lu,BH (by omega)];exact h1
theorem Lw{p:List Rat}{n:Nat}(h:∀j,n≤j→cf p j=0):(Jc p).length≤n:=by
 rcases AV n (Jc p).length with h1|h1
 · have h2:=Jq (JX p) (by intro h3;rw[h3]at h1;simp at h1);rw[J0]at h2;exact absurd (h _ (by omega)) h2
 · exact h1
def ev:List Rat→Rat→Rat
 |[],_=>0
 |c::t,x=>c+x*ev t x
theorem I0{p:List Rat}(h:∀i,cf p i=0)(x:Rat):ev p x=0:=by
 induction p with
 |nil=>rfl
 |cons c t ih=>
  have h1:=ih (fun i=>by rw[←JI c t i];exact h (i+1));have h2:c=0:=by rw[←Yf c t];exact h 0
  rw[ev,h1,h2];grind
theorem I1{p q:List Rat}(h:∀i,cf p i=cf q i)(x:Rat):ev p x=ev q x:=by
 induction p generalizing q with
 |nil=>rw[I0 (p:=q) (fun i=>by rw[←h i,YD])];rfl
 |cons c t ih=>
  cases q with
  |nil=>rw[I0 (p:=c::t) (fun i=>by rw[h i,YD])];rfl
  |cons d s=>
   have h1:c=d:=by have:=h 0;rwa[Yf,Yf]at this
   have h2:=ih (q:=s) (fun i=>by have:=h (i+1);rwa[JI,JI]at this);rw[ev,ev,h1,h2]
theorem Xt(p:List Rat)(x:Rat):ev (Jc p) x=ev p x:=I1 (J0 p) x
def dv:List Rat→Rat→Rat
 |[],_=>0
 |_::t,x=>ev t x+x*dv t x
theorem OJ{p:List Rat}(h:∀i,cf p i=0)(x:Rat):dv p x=0:=by
 induction p with
 |nil=>rfl
 |cons c t ih=>
  have h0:∀i,cf t i=0:=fun i=>by rw[←JI c t i];exact h (i+1)
  rw[dv,ih h0,I0 h0];grind
theorem I2{p q:List Rat}(h:∀i,cf p i=cf q i)(x:Rat):dv p x=dv q x:=by
 induction p generalizing q with
 |nil=>rw[OJ (p:=q) (fun i=>by rw[←h i,YD])];rfl
 |cons c t ih=>
  cases q with
  |nil=>rw[OJ (p:=c::t) (fun i=>by rw[h i,YD])];rfl
  |cons d s=>
   have h2:∀i,cf t i=cf s i:=fun i=>by have:=h (i+1);rwa[JI,JI]at this
   rw[dv,dv,ih h2,I1 h2]
def GP:List Rat→Rat→List Rat
 |[],_=>[]
 |_::t,a=>match t with
  |[]=>[]
  |d::s=>ev (d::s) a::GP (d::s) a
theorem R7(p:List Rat)(a:Rat):(GP p a).length=p.length-1:=by
 induction p with
 |nil=>rfl
 |cons c t ih=>
  cases t with
  |nil=>rfl
  |cons d s=>
   rw[GP,Ad,ih];simp
theorem OK(p:List Rat)(a x:Rat):ev p x=ev p a+(x-a)*ev (GP p a) x:=by
 induction p with
 |nil=>simp[ev,GP];grind
 |cons c t ih=>
  cases t with
  |nil=>simp[ev,GP];grind
  |cons d s=>
   rw[GP];generalize hq:d::s=q at *;rw[ev,ev,ev,ih];grind
theorem R8{p:List Rat}{m:Nat}(h:∀n:Nat,m≤n→ev p (n:Rat)=0)(x:Rat):ev p x=0:=by
 obtain⟨k,hk⟩:=ex (p.length);induction k generalizing p m with
 |zero=>
  have:p=[]:=AB hk
  rw[this];rfl
 |succ k ih=>
  have h0:=h m (Aa _);have h1:∀n:Nat,m+1≤n→ev (GP p m) (n:Rat)=0:=fun n hn=>by
   have h2:=OK p (m:Rat) (n:Rat);rw[h n (by omega),h0]at h2;have h3:((n:Rat)-(m:Rat))≠0:=by
    intro h4;have h5:(n:Rat)=(m:Rat):=by grind
    have:=Rat.natCast_inj.1 h5;omega
   have h6:((n:Rat)-(m:Rat))*ev (GP p m) n=0:=by grind
   rcases Ch.1 h6 with h7|h7
   · exact absurd h7 h3
   · exact h7
  have h2:=ih h1 (by rw[R7,hk];rfl);rw[OK p (m:Rat) x,h0,h2];grind
theorem R9{p:List Rat}(h:∀x,ev p x=0)(i:Nat):cf p i=0:=by
 induction p generalizing i with
 |nil=>rfl
 |cons c t ih=>
  have h0:c=0:=by have:=h 0;rw[ev]at this;grind
  have h1:∀x,ev t x=0:=fun x=>R8 (m:=1) (fun n hn=>by
   have h2:=h (n:Rat);rw[ev,h0]at h2;have h3:(n:Rat)≠0:=fun h4=>by
    have h5:(n:Rat)=((0:Nat):Rat):=h4;have:=Rat.natCast_inj.1 h5;omega
   have h6:(n:Rat)*ev t n=0:=by grind
   rcases Ch.1 h6 with h7|h7
   · exact absurd h7 h3
   · exact h7) x
  cases i with
  |zero=>rw[Yf];exact h0
  |succ i=>rw[JI];exact ih h1 i
def XQ:List Rat→List Rat→List Rat
 |[],q=>q
 |p,[]=>p
 |c::t,d::s=>(c+d)::XQ t s
def YS(a:Rat)(p:List Rat):List Rat:=p.map (fun c=>c*a)
def EU:List Rat→List Rat→List Rat
 |[],_=>[]
 |c::t,q=>XQ (YS c q) (0::EU t q)
theorem Ge(p q:List Rat)(i:Nat):cf (XQ p q) i=cf p i+cf q i:=by
 induction p generalizing q i with
 |nil=>rw[XQ,YD];grind
 |cons c t ih=>
  cases q with
  |nil=>
   rw[XQ,YD]
   · grind
   · intro h;cases h
  |cons d s=>
   rw[XQ];cases i with
   |zero=>simp[cf]
   |succ i=>rw[JI,JI,JI,ih]
theorem II(a:Rat)(p:List Rat)(i:Nat):cf (YS a p) i=cf p i*a:=by
 unfold cf YS;rw[Fm];cases p[i]? with
 |none=>simp
 |some c=>rfl
theorem X9(p q:List Rat)(x:Rat):ev (XQ p q) x=ev p x+ev q x:=by
 induction p generalizing q with
 |nil=>rw[XQ,ev];grind
 |cons c t ih=>
  cases q with
  |nil=>
   rw[XQ]
   · rw[show ev [] x=0 from rfl];grind
   · intro h;cases h
  |cons d s=>rw[XQ,ev,ev,ev,ih];grind
theorem Xz(a:Rat)(p:List Rat)(x:Rat):ev (YS a p) x=ev p x*a:=by
 induction p with
 |nil=>simp[YS,ev]
 |cons c t ih=>
  rw[show YS a (c::t)=(c*a)::YS a t from rfl,ev,ev,ih];grind
theorem Lx(p q:List Rat)(x:Rat):ev (EU p q) x=ev p x*ev q x:=by
 induction p with
 |nil=>rw[EU,ev];grind
 |cons c t ih=>rw[EU,X9,Xz,ev,ev,ih];grind
theorem OL(p q:List Rat)(x:Rat):dv (XQ p q) x=dv p x+dv q x:=by
 induction p generalizing q with
 |nil=>rw[XQ,dv];grind
 |cons c t ih=>
  cases q with
  |nil=>
   rw[XQ]
   · rw[show dv [] x=0 from rfl];grind
   · intro h;cases h
  |cons d s=>rw[XQ,dv,dv,dv,ih,X9];grind
theorem OM(a:Rat)(p:List Rat)(x:Rat):dv (YS a p) x=dv p x*a:=by
 induction p with
 |nil=>simp[YS,dv]
 |cons c t ih=>
  rw[show YS a (c::t)=(c*a)::YS a t from rfl,dv,dv,ih,Xz];grind
theorem ON(p q:List Rat)(x:Rat):dv (EU p q) x=dv p x*ev q x+ev p x*dv q x:=by
 induction p with
 |nil=>rw[EU,dv,ev];grind
 |cons c t ih=>rw[EU,OL,OM,dv,dv,ev,ih,Lx];grind
theorem Ki{p q:List Rat}(h:∀x,ev p x=ev q x):Jc p=Jc q:=by
 have h1:∀i,cf (XQ p (YS (-1) q)) i=0:=R9 (fun x=>by rw[X9,Xz,h x];grind);refine Gc fun i=>?_;have:=h1 i;rw[Ge,II]at this;grind
def Dn:Nat→(Nat→Rat)→Rat
 |0,_=>0
 |n+1,f=>Dn n f+f n
theorem SA{n:Nat}{f g:Nat→Rat}(h:∀k,k<n→f k=g k):Dn n f=Dn n g:=by
 induction n with
 |zero=>rfl
 |succ n ih=>rw[Dn,Dn,ih (fun k hk=>h k (by omega)),h n (by omega)]
theorem Ly{n:Nat}{f:Nat→Rat}(h:∀k,k<n→f k=0):Dn n f=0:=by
 induction n with
 |zero=>rfl
 |succ n ih=>rw[Dn,ih (fun k hk=>h k (by omega)),h n (by omega)];grind
theorem SC(n:Nat)(f:Nat→Rat):Dn (n+1) f=f 0+Dn n (fun k=>f (k+1)):=by
 induction n with
 |zero=>simp[Dn];grind
 |succ n ih=>rw[Dn,ih,Dn];grind
def conv(p q:List Rat)(n k:Nat):Rat:=Dn n (fun i=>if i≤k then cf p i*cf q (k-i)else 0)
theorem IJ(p q:List Rat)(k:Nat):cf (EU p q) k=conv p q p.length k:=by
 induction p generalizing k with
 |nil=>rfl
 |cons c t ih=>
  rw[EU,Ge,II,conv,Ad,SC];rw[BH (AH _),Yf,Fk];have e:cf (0::EU t q) k=Dn t.length (fun i=>if i+1≤k then cf (c::t) (i+1)*cf q (k-(i+1))else 0):=by
   cases k with
   |zero=>
    rw[Yf,Ly];intro i hi;rw[BE (by omega)]
   |succ k=>
    rw[JI,ih,conv];refine SA fun i hi=>?_;by_cases h:i≤k
    · rw[BH h,BH (by omega),JI,show k+1-(i+1)=k-i from by omega]
    · rw[BE h,BE (by omega)]
  rw[e];grind
theorem SF(p q:List Rat){n k:Nat}(h:p.length≤n):conv p q n k=conv p q p.length k:=by
 induction n with
 |zero=>rw[show p.length=0 from by omega]
 |succ n ih=>
  by_cases h1:p.length=n+1
  · rw[h1]
  · rw[←ih (by omega)];show conv p q n k+_=_
    dsimp only;rw[J8 (show p.length≤n from by omega)];split<;>grind
theorem SG{p q:List Rat}{k:Nat}(h:p.length+q.length≤k+1):cf (EU p q) k=0:=by
 rw[IJ];refine Ly fun i hi=>?_;split
 · rw[J8 (p:=q) (by omega)];grind
 · rfl
theorem OO(p q:List Rat)(m n:Nat)(hp:p.length=m+1)(hq:q.length=n+1):cf (EU p q) (m+n)=cf p m*cf q n:=by
 rw[IJ,hp,conv,Dn,BH (by omega),show m+n-m=n from by omega];rw[Ly]
 · grind
 · intro i hi;split
   · rw[J8 (p:=q) (by omega)];grind
   · rfl
theorem XV{p q:List Rat}(hp:Jc p=p)(hq:Jc q=q)(hp0:p≠[])(hq0:q≠[]):(Jc (EU p q)).length=p.length+q.length-1:=by
 have h1:=Jq hp hp0;have h2:=Jq hq hq0;have l1:0<p.length:=Af.2 hp0;have l2:0<q.length:=Af.2 hq0;have h3:=OO p q (p.length-1) (q.length-1) (by omega) (by omega);have h4:cf (EU p q) (p.length-1+(q.length-1))≠0:=by
  rw[h3];intro h5;rcases Ch.1 h5 with h6|h6
  · exact h1 h6
  · exact h2 h6
 have h5:(Jc (EU p q)).length≤p.length+q.length-1:=Lw fun j hj=>SG (by omega);rcases AV (Jc (EU p q)).length (p.length+q.length-1)with h6|h6
 · rw[←J0]at h4;exact absurd (J8 (by omega)) h4
 · omega
def Ha(p:List Rat):List Rat:=(List.range (p.length-1)).map (fun i=>cf p (i+1)*((i+1:Nat):Rat))
theorem I3(p:List Rat)(i:Nat):cf (Ha p) i=cf p (i+1)*((i+1:Nat):Rat):=by
 unfold Ha;rw[Lt];split
 · rfl
 · rw[J8 (by omega)];grind
theorem SH(p:List Rat)(x:Rat):ev (Ha p) x=dv p x:=by
 induction p with
 |nil=>rfl
 |cons c t ih=>
  have e:∀i,cf (Ha (c::t)) i=cf (XQ t (0::Ha t)) i:=fun i=>by
   rw[I3,Ge,JI];cases i with
   |zero=>rw[Yf];grind
   |succ i=>rw[JI,I3];grind
  rw[I1 e,X9,ev,ih,dv];grind
theorem SI(p:List Rat):XQ p []=p:=by cases p<;>rfl
theorem SJ{q u v u' v':List Rat}(hq:Jc q=q)(hq0:q≠[])(hu:Jc u=u)(hu':Jc u'=u')(hv:Jc v=v)(hv':Jc v'=v')(lv:v.length<q.length)(lv':v'.length<q.length)
(h:∀x,ev q x*ev u x+ev v x=ev q x*ev u' x+ev v' x):u=u'∧v=v':=by
 obtain⟨d,hd⟩:=ex (Jc (XQ u (YS (-1) u')));have Qc:Jc d=d:=by rw[←hd,JX]
 have Qa:∀x,ev d x=ev u x-ev u' x:=fun x=>by rw[←hd,Xt,X9,Xz];grind
 have Qd:∀x,ev (EU d q) x=ev (XQ v' (YS (-1) v)) x:=fun x=>by
  rw[Lx,X9,Xz,Qa];have:=h x;grind
 have h1:=Ki Qd;have h2:(Jc (XQ v' (YS (-1) v))).length<q.length:=by
  refine Cv (Lw (n:=q.length-1) fun j hj=>?_) (by omega);rw[Ge,II,J8 (by omega),J8 (by omega)];grind
 have Qb:d=[]:=by
  by_cases h3:d=[]
  · exact h3
  · have h4:=XV Qc hq h3 hq0;have h5:0<d.length:=Af.2 h3;rw[h1]at h4;omega
 have e1:∀x,ev u x=ev u' x:=fun x=>by
  have:=Qa x;rw[Qb,show ev [] x=0 from rfl]at this;grind
 have e2:u=u':=by rw[←hu,←hu'];exact Ki e1
 refine⟨e2,?_⟩;rw[←hv,←hv'];exact Ki fun x=>by
  have:=h x;rw[e2]at this;grind
def FL(i:Nat)(q:List Rat):List Rat:=List.replicate i 0++q
theorem Kj(i:Nat)(q:List Rat)(k:Nat):cf (FL i q) k=if i≤k then cf q (k-i)else 0:=by
 unfold cf FL;by_cases h:k<i
 · rw[A4 (by simpa using h),BE (by omega),List.getElem?_replicate];split<;>rfl
 · rw[AR (by simp;omega),BH (by omega)];simp
theorem OP(i:Nat)(q:List Rat)(x:Rat):ev (FL i q) x=x^i*ev q x:=by
 induction i with
 |zero=>rw[show FL 0 q=q from rfl];grind
 |succ i ih=>
  rw[show FL (i+1) q=0::FL i q from rfl,ev,ih];grind
def YG(z:List Rat)(i:Nat)(a:Rat)(q:List Rat):Nat→List Rat
 |0=>z
 |j+1=>(YG z i a q j).set (i+j) (cf (YG z i a q j) (i+j)+a*cf q j)
theorem Yr(z:List Rat)(i:Nat)(a:Rat)(q:List Rat)(j:Nat):(YG z i a q j).length=z.length:=by
 induction j with
 |zero=>rfl
 |succ j ih=>rw[YG,Cz,ih]
theorem SK(z:List Rat)(i:Nat)(a:Rat)(q:List Rat)(j k:Nat)(h:i+j≤z.length):cf (YG z i a q j) k=cf z k+(if i≤k∧k<i+j then a*cf q (k-i)else 0):=by
 induction j with
 |zero=>rw[YG,BE (by omega)];grind
 |succ j ih=>
  have ih:=ih (by omega);rw[YG,XG _ _ _ _ (by rw[Yr];omega)];by_cases h1:k=i+j
  · subst h1;rw[BH rfl,ih,BE (by omega),BH (by omega),show i+j-i=j from by omega];grind
  · rw[BE h1,ih];by_cases h2:i≤k∧k<i+j
    · rw[BH h2,BH (by omega)]
    · rw[BE h2,BE (by omega)]
theorem Lz(z:List Rat)(i:Nat)(a:Rat)(q:List Rat)(k:Nat)(h:i+q.length≤z.length):cf (YG z i a q q.length) k=cf z k+a*cf (FL i q) k:=by
 rw[SK _ _ _ _ _ _ h,Kj];by_cases h1:i≤k
 · by_cases h2:k<i+q.length
   · rw[BH ⟨h1,h2⟩,BH h1]
   · rw[BE (by omega),BH h1,J8 (p:=q) (by omega)];grind
 · rw[BE (by omega),BE h1];grind
theorem SL(z:List Rat)(i:Nat)(a:Rat)(q:List Rat)(x:Rat)(h:i+q.length≤z.length):ev (YG z i a q q.length) x=ev z x+a*(x^i*ev q x):=by
 have e:∀k,cf (YG z i a q q.length) k=cf (XQ z (YS a (FL i q))) k:=fun k=>by
  rw[Lz _ _ _ _ _ h,Ge,II];grind
 rw[I1 e,X9,Xz,OP];grind
def XT(p q:List Rat)(n:Nat):Nat→List Rat
 |0=>List.replicate n 0
 |i+1=>YG (XT p q n i) i (cf p i) q q.length
theorem L0(p q:List Rat)(n i:Nat):(XT p q n i).length=n:=by
 induction i with
 |zero=>rw[XT,Az]
 |succ i ih=>rw[XT,Yr,ih]
theorem OQ(p q:List Rat)(n i k:Nat)(h:i=0∨i+q.length≤n+1):cf (XT p q n i) k=conv p q i k:=by
 induction i with
 |zero=>rw[XT,JZ];rfl
 |succ i ih=>
  rw[XT,Lz _ _ _ _ _ (by rw[L0];omega),ih (by omega),Kj];show _=conv p q i k+_
  dsimp only;split<;>grind
def Jz(p q:List Rat)(n m:Nat):Nat→List Rat × List Rat
 |0=>(List.replicate m 0,p)
 |k+1=>
  let s:=Jz p q n m k
  let i:=m-(k+1)
  let c:=cf s.2 (i+n)/cf q n
  (s.1.set i c,YG s.2 i (-c) q q.length)
theorem YK(p q:List Rat)(n m k:Nat):(Jz p q n m k).1.length=m∧(Jz p q n m k).2.length=p.length:=by
 induction k with
 |zero=>exact⟨Az,rfl⟩
 |succ k ih=>rw[Jz];exact⟨by rw[Cz];exact ih.1,by rw[Yr];exact ih.2⟩
theorem SM(p:List Rat)(i:Nat)(c:Rat)(x:Rat)(hi:i<p.length)(h0:cf p i=0):ev (p.set i c) x=ev p x+c*x^i:=by
 have e:∀k,cf (p.set i c) k=cf (XQ p (FL i [c])) k:=fun k=>by
  rw[XG _ _ _ _ hi,Ge,Kj];by_cases h:k=i
  · subst h;rw[BH rfl,BH (Aa _),h0,Cj,Yf];grind
  · rw[BE h];by_cases h1:i≤k
    · rw[BH h1,J8 (p:=[c]) (by simp;omega)];grind
    · rw[BE h1];grind
 rw[I1 e,X9,OP];simp[ev];grind
theorem OR(p q:List Rat)(n m:Nat)(hq:q.length=n+1)(hl:cf q n≠0)(hm:m+n=p.length):∀k,k≤m→
 (∀x,ev p x=ev q x*ev (Jz p q n m k).1 x+ev (Jz p q n m k).2 x)∧(∀j,j<m-k→cf (Jz p q n m k).1 j=0)∧(∀j,m-k+n≤j→cf (Jz p q n m k).2 j=0):=by
 intro k;induction k with
 |zero=>
  intro _;refine⟨fun x=>?_,fun j _=>JZ _ _,fun j hj=>J8 (by show p.length≤j;omega)⟩;rw[Jz];dsimp only;rw[I0 (JZ m)];grind
 |succ k ih=>
  intro hk;obtain⟨h1,h2,h3⟩:=ih (by omega);obtain⟨l1,l2⟩:=YK p q n m k;rw[Jz];dsimp only;generalize hs:Jz p q n m k=s at *;obtain⟨i,hi⟩:=ex (m-(k+1));rw[hi];obtain⟨c,hc⟩:=ex (cf s.2 (i+n)/cf q n);rw[hc];have Qa:i+q.length≤s.2.length:=by omega
  have hcq:c*cf q n=cf s.2 (i+n):=by rw[←hc];exact Aq hl
  refine⟨fun x=>?_,fun j hj=>?_,fun j hj=>?_⟩
  · rw[SM _ _ _ _ (by omega) (h2 i (by omega)),SL _ _ _ _ _ Qa,h1 x];grind
  · rw[XG _ _ _ _ (by omega),BE (by omega)];exact h2 j (by omega)
  · rw[Lz _ _ _ _ _ Qa,Kj,BH (by omega)];by_cases h4:j=i+n
    · subst h4;rw[show i+n-i=n from by omega];grind
    · rw[h3 j (by omega),J8 (p:=q) (by omega)];grind
def Jv(p q:List Rat):List Rat:=Jc (Jz p q (q.length-1) (p.length-(q.length-1)) (p.length-(q.length-1))).1
def JE(p q:List Rat):List Rat:=Jc (Jz p q (q.length-1) (p.length-(q.length-1)) (p.length-(q.length-1))).2
theorem YL(p q:List Rat)(hq:Jc q=q)(hq0:q≠[]):(∀x,ev p x=ev q x*ev (Jv p q) x+ev (JE p q) x)∧(JE p q).length<q.length∧Jc (Jv p q)=Jv p q∧Jc (JE p q)=JE p q:=by
 have l1:0<q.length:=Af.2 hq0;refine⟨fun x=>?_,?_,JX _,JX _⟩
 · unfold Jv JE;rw[Xt,Xt];by_cases h:q.length-1≤p.length
   · exact(OR p q (q.length-1) (p.length-(q.length-1)) (by omega) (Jq hq hq0) (by omega) _ (Aa _)).1 x
   · rw[show p.length-(q.length-1)=0 from by omega,Jz];dsimp only;rw[I0 (JZ 0)];grind
 · unfold JE;refine Cv (Lw (n:=q.length-1) fun j hj=>?_) (by omega);by_cases h:q.length-1≤p.length
   · exact(OR p q (q.length-1) (p.length-(q.length-1)) (by omega) (Jq hq hq0) (by omega) _ (Aa _)).2.2 j (by omega)
   · rw[show p.length-(q.length-1)=0 from by omega,Jz];exact J8 (by dsimp only;omega)
def Y8(p q:List Rat):List Rat:=Jc (XQ p q)
def Ym(p q:List Rat):List Rat:=Jc (XQ p (YS (-1) q))
def Jn(p q:List Rat):List Rat:=Jc (EU p q)
def Jd(p:List Rat):List Rat:=Jc (Ha p)
theorem Xk(p q:List Rat):Jc (Y8 p q)=Y8 p q:=JX _
theorem XA(p q:List Rat):Jc (Ym p q)=Ym p q:=JX _
theorem J3(p q:List Rat):Jc (Jn p q)=Jn p q:=JX _
theorem J1(p:List Rat):Jc (Jd p)=Jd p:=JX _
theorem Ys(p q:List Rat)(x:Rat):ev (Y8 p q) x=ev p x+ev q x:=by unfold Y8;rw[Xt,X9]
theorem Y3(p q:List Rat)(x:Rat):ev (Ym p q) x=ev p x-ev q x:=by unfold Ym;rw[Xt,X9,Xz];grind
theorem Jh(p q:List Rat)(x:Rat):ev (Jn p q) x=ev p x*ev q x:=by unfold Jn;rw[Xt,Lx]
theorem YZ(p:List Rat)(x:Rat):ev (Jd p) x=dv p x:=by unfold Jd;rw[Xt,SH]
theorem I4(p q:List Rat)(i:Nat):cf (Y8 p q) i=cf p i+cf q i:=by unfold Y8;rw[J0,Ge]
theorem L1(p q:List Rat)(i:Nat):cf (Ym p q) i=cf p i-cf q i:=by unfold Ym;rw[J0,Ge,II];grind
theorem SN(p q:List Rat):(XQ p q).length=max p.length q.length:=by
 induction p generalizing q with
 |nil=>rw[XQ];simp
 |cons c t ih=>
  cases q with
  |nil=>rw[SI];simp
  |cons d s=>rw[XQ,Ad,ih,Ad,Ad];omega
theorem L2(p q:List Rat):(Y8 p q).length≤max p.length q.length:=by
 have:=YB (XQ p q);rw[SN]at this;exact this
theorem XH{p q:List Rat}(hp:Jc p=p)(hq:Jc q=q)(h:∀x,ev p x=ev q x):p=q:=by rw[←hp,←hq];exact Ki h
theorem SO(p q:List Rat):Jd (Jn p q)=Y8 (Jn (Jd p) q) (Jn p (Jd q)):=by
 refine XH (J1 _) (Xk _ _) fun x=>?_;rw[YZ,Ys,Jh,Jh,YZ,YZ,←ON];exact I2 (fun i=>by unfold Jn;rw[J0]) x
def Yj(a:Rat):List Rat:=[a,1]
def JG(a:Rat):List Rat→List Rat
 |[]=>[]
 |c::t=>Y8 (Jn (JG a t) (Yj a)) (Jc [c])
theorem OS(a:Rat):Jc (Yj a)=Yj a:=YR (Or.inr (by show cf [a,1] 1≠0;rw[JI,Yf];decide))
theorem XW(a:Rat)(p:List Rat):Jc (JG a p)=JG a p:=by
 cases p with
 |nil=>rfl
 |cons c t=>exact Xk _ _
theorem Y4(a:Rat)(p:List Rat)(x:Rat):ev (JG a p) x=ev p (x+a):=by
 induction p with
 |nil=>rfl
 |cons c t ih=>
  rw[JG,Ys,Jh,Xt,ih];simp only[Yj,ev];grind
theorem OT(a:Rat)(p:List Rat)(hp:Jc p=p):(JG a p).length=p.length:=by
 induction p with
 |nil=>rfl
 |cons c t ih=>
  by_cases ht:t=[]
  · subst ht;have e:JG a [c]=Jc [c]:=by
     rw[JG,JG];refine XH (Xk _ _) (JX _) fun x=>?_;rw[Ys,Jh,show ev [] x=0 from rfl];grind
    rw[e,hp]
  · have h1:=Jq hp (by simp);have e1:(c::t).length-1=(t.length-1)+1:=by
     have:0<t.length:=Af.2 ht
     rw[Ad];omega
    rw[e1,JI]at h1;have Qa:Jc t=t:=YR (Or.inr h1);have ih:=ih Qa;have lt:0<t.length:=Af.2 ht;have m0:JG a t≠[]:=fun h=>by rw[h]at ih;simp at ih;omega
    have h2:=XV (XW a t) (OS a) m0 (by unfold Yj;simp);have h3:(Jn (JG a t) (Yj a)).length=t.length+1:=by unfold Jn;rw[h2,ih];rfl
    have h4:=Jq (J3 (JG a t) (Yj a)) (fun h=>by rw[h]at h3;simp at h3);rw[h3]at h4;have h5:cf (JG a (c::t)) t.length≠0:=by
     rw[JG,I4,J0,J8 (p:=[c]) (by simp;omega)];simp only[Nat.add_sub_cancel]at h4;grind
    have h6:(JG a (c::t)).length≤t.length+1:=by
     rw[JG];have:=L2 (Jn (JG a t) (Yj a)) (Jc [c]);have h7:=YB [c];simp at h7;omega
    rcases AV t.length (JG a (c::t)).length with h8|h8
    · rw[Ad];omega
    · exact absurd (J8 h8) h5
theorem Ye(a b:Rat):a≤b∨b≤a:=Rat.le_total
theorem YT{a b:Rat}(ha:0<a)(hb:0<b):0<a/b:=by
 have e:a/b*b=a:=Aq (by grind);rcases Ye (a/b) 0 with h|h
 · have:=Rat.mul_nonneg (a:=-(a/b)) (b:=b) (by grind) (by grind);grind
 · rcases Rat.le_iff_lt_or_eq.1 h with h|h
   · exact h
   · rw[←h]at e;grind
theorem SP{u v U V:Rat}(a:-U≤u)(b:u≤U)(c:-V≤v)(d:v≤V):-(U*V)≤u*v∧u*v≤U*V:=by
 have h1:=Rat.mul_nonneg (a:=U-u) (b:=V+v) (by grind) (by grind);have h2:=Rat.mul_nonneg (a:=U+u) (b:=V-v) (by grind) (by grind);have h3:=Rat.mul_nonneg (a:=U-u) (b:=V-v) (by grind) (by grind);have h4:=Rat.mul_nonneg (a:=U+u) (b:=V+v) (by grind) (by grind);constructor<;>grind
def Wi(K u:Rat):Prop:=-K≤u∧u≤K
theorem Wi.mul{K L u v:Rat}(h:Wi K u)(h2:Wi L v):Wi (K*L) (u*v):=SP h.1 h.2 h2.1 h2.2
theorem Wi.add{K L u v:Rat}(h:Wi K u)(h2:Wi L v):Wi (K+L) (u+v):=by have:=h.1;have:=h.2;have:=h2.1;have:=h2.2;constructor<;>grind
theorem Wi.mono{K L u:Rat}(h:Wi K u)(hl:K≤L):Wi L u:=by have:=h.1;have:=h.2;constructor<;>grind
theorem Wi.neg{K u:Rat}(h:Wi K u):Wi K (-u):=by have:=h.1;have:=h.2;constructor<;>grind
theorem IK(c:Rat)(p:List Rat)(x:Rat):ev (c::p) x=c+x*ev p x:=rfl
theorem Yt(c:Rat):∃K,0<K∧Wi K c:=by
 rcases Ye 0 c with h|h
 · exact⟨c+1,by grind,by constructor<;>grind⟩
 · exact⟨-c+1,by grind,by constructor<;>grind⟩
theorem XU(p:List Rat){B:Rat}(hB:0≤B):∃K,0<K∧∀x,Wi B x→Wi K (ev p x):=by
 induction p with
 |nil=>exact⟨1,by decide,fun x _=>⟨by simp[ev];grind,by simp[ev];grind⟩⟩
 |cons c p ih=>
  obtain⟨K,hK,h⟩:=ih;obtain⟨C,hC,hc⟩:=Yt c;have:=Rat.mul_nonneg hB (Rat.le_of_lt hK);exact⟨C+B*K,by grind,fun x hx=>hc.add (hx.mul (h x hx))⟩
theorem SQ(p:List Rat){B:Rat}(hB:0≤B):∃K,0<K∧∀x y,Wi B x→Wi B y→x≤y→Wi (K*(y-x)) (ev p x-ev p y):=by
 induction p with
 |nil=>exact⟨1,by decide,fun x y _ _ hxy=>⟨by simp[ev];grind,by simp[ev];grind⟩⟩
 |cons c p ih=>
  obtain⟨K,hK,h⟩:=ih;obtain⟨C,hC,hc⟩:=XU p hB;refine⟨C+B*K+1,by have:=Rat.mul_nonneg hB (Rat.le_of_lt hK);grind,fun x y hx hy hxy=>?_⟩;have h1:Wi (y-x) (x-y):=⟨by grind,by grind⟩;have h2:=(h1.mul (hc x hx)).add (hy.mul (h x y hx hy hxy));have e:ev (c::p) x-ev (c::p) y=(x-y)*ev p x+y*(ev p x-ev p y):=by rw[IK,IK];grind
  rw[e];refine h2.mono ?_;grind
def Sh(B:Rat)(P:Rat→Rat→Prop):Prop:=∃d,0<d∧∀x y,Wi B x→Wi B y→x≤y→y-x≤d→P x y
section
variable {B:Rat} {P Q:Rat→Rat→Prop}
theorem Sh.and(h:Sh B P)(h2:Sh B Q):Sh B fun x y=>P x y∧Q x y:=by
 obtain⟨d,d0,h⟩:=h;obtain⟨e,e0,h2⟩:=h2;rcases Ye d e with hd|hd
 · exact⟨d,d0,fun x y a b c l=>⟨h x y a b c l,h2 x y a b c (by grind)⟩⟩
 · exact⟨e,e0,fun x y a b c l=>⟨h x y a b c (by grind),h2 x y a b c l⟩⟩
theorem Sh.mono(h:Sh B P)(hi:∀x y,Wi B x→Wi B y→x≤y→P x y→Q x y):Sh B Q:=by
 obtain⟨d,d0,h⟩:=h;exact⟨d,d0,fun x y a b c l=>hi x y a b c (h x y a b c l)⟩
theorem Sh.all(h:∀x y,Wi B x→Wi B y→x≤y→P x y):Sh B P:=⟨1,by decide,fun x y a b c _=>h x y a b c⟩
end
def Do(p:List Rat)(x y:Rat):Prop:=0<ev p x*ev p y
theorem Hb(p:List Rat){B e:Rat}(hB:0≤B)(he:0<e):Sh B fun x y=>¬Do p x y→Wi e (ev p x)∧Wi e (ev p y):=by
 obtain⟨K,hK,h⟩:=SQ p hB;refine⟨e/K,YT he hK,fun x y a b c l hn=>?_⟩;have h1:=h x y a b c;have h2:K*(y-x)≤e:=by
  have:=Rat.mul_le_mul_of_nonneg_left l (Rat.le_of_lt hK);have e1:K*(e/K)=e:=by rw[CH,Aq (by grind)]
  grind
 have h3:=h1.mono h2;have hs:ev p x*ev p y≤0:=Rat.not_lt.1 hn;have hd1:=h3.1;have hd2:=h3.2;rcases Ye 0 (ev p x)with p1|p1<;>rcases Ye 0 (ev p y)with p2|p2
 · rcases Rat.le_iff_lt_or_eq.1 p1 with q1|q1
   · rcases Rat.le_iff_lt_or_eq.1 p2 with q2|q2
     · have:=Rat.mul_pos q1 q2;grind
     · constructor<;>constructor<;>grind
   · constructor<;>constructor<;>grind
 · constructor<;>constructor<;>grind
 · constructor<;>constructor<;>grind
 · rcases Rat.le_iff_lt_or_eq.1 p1 with q1|q1
   · rcases Rat.le_iff_lt_or_eq.1 p2 with q2|q2
     · have:=Rat.mul_pos (a:=- ev p x) (b:=- ev p y) (by grind) (by grind);grind
     · constructor<;>constructor<;>grind
   · constructor<;>constructor<;>grind
def EI:Rat→List Rat→Nat
 |_,[]=>0
 |a,b::l=>if b=0 then EI a l else(if a*b<0 then 1 else 0)+EI b l
def DR(l:List Rat):Nat:=EI 0 l
def JJ(l:List (List Rat))(x:Rat):List Rat:=l.map fun p=>ev p x
theorem JY(p:List Rat)(l:List (List Rat))(x:Rat):JJ (p::l) x=ev p x::JJ l x:=rfl
theorem ST{a b:Rat}(h:a<0)(h2:0≤b):a*b≤0:=by
 have:=Rat.mul_nonneg (a:=-a) (b:=b) (by grind) h2;grind
theorem OU{a b:Rat}(h:a<0)(h2:0≤b)(h3:0<a*b):False:=by have:=ST h h2;grind
theorem L3{a b c d:Rat}(h:0<a*c)(h2:0<b*d):a*b<0↔c*d<0:=by
 have h3:0<(a*b)*(c*d):=by have:=Rat.mul_pos h h2;grind
 constructor
 · intro h4;rcases Ye 0 (c*d)with h5|h5
   · exact(OU h4 h5 h3).elim
   · rcases Rat.le_iff_lt_or_eq.1 h5 with h6|h6
     · exact h6
     · rw[h6]at h3;grind
 · intro h4;rcases Ye 0 (a*b)with h5|h5
   · exact(OU h4 h5 (by rw[CH];exact h3)).elim
   · rcases Rat.le_iff_lt_or_eq.1 h5 with h6|h6
     · exact h6
     · rw[h6]at h3;grind
theorem Yw{a b:Rat}(h:0<a*b):a≠0∧b≠0:=⟨fun e=>by rw[e]at h;grind,fun e=>by rw[e]at h;grind⟩
theorem SU{a b:Rat}(h:a*b<0):a≠0∧b≠0:=⟨fun e=>by rw[e]at h;grind,fun e=>by rw[e]at h;grind⟩
theorem XI{a b:Rat}(h:b≠0)(l:List Rat):EI a (b::l)=(if a*b<0 then 1 else 0)+EI b l:=by
 rw[EI,BE h]
theorem OV{a g h:Rat}(hh:a*h<0)(l:List Rat):EI a (g::h::l)=1+EI h l:=by
 obtain⟨a0,h0⟩:=SU hh;by_cases g0:g=0
 · rw[EI,BH g0,XI h0,BH hh]
 · rw[XI g0,XI h0];have g2:0<g*g:=by
    rcases Ye 0 g with h1|h1
    · rcases Rat.le_iff_lt_or_eq.1 h1 with h2|h2
      · exact Rat.mul_pos h2 h2
      · exact absurd h2.symm g0
    · rcases Rat.le_iff_lt_or_eq.1 h1 with h2|h2
      · have:=Rat.mul_pos (a:=-g) (b:=-g) (by grind) (by grind);grind
      · exact absurd h2 g0
   have h3:(a*g)*(g*h)<0:=by
    have:=Rat.mul_pos (a:=-(a*h)) (b:=g*g) (by grind) g2;grind
   by_cases p:a*g<0
   · have:¬g*h<0:=fun q=>by
      have:=Rat.mul_pos (a:=-(a*g)) (b:=-(g*h)) (by grind) (by grind);grind
     rw[BH p,BE this];omega
   · have:g*h<0:=by
      rcases Ye 0 (g*h)with q|q
      · have:=Rat.mul_nonneg (a:=a*g) (b:=g*h) (Rat.not_lt.1 p) q;grind
      · rcases Rat.le_iff_lt_or_eq.1 q with q|q
        · exact q
        · rw[q]at h3;grind
     rw[BE p,BH this];omega
def OW(x y:Rat):List (List Rat)→Prop
 |[]=>False
 |[f]=>Do f x y
 |[_,g]=>Do g x y
 |f::g::h::l=>(Do f x y∨Do g x y)∧(¬Do g x y→ev f x*ev h x<0∧ev f y*ev h y<0)∧OW x y (g::h::l)
structure Gd(x y:Rat)(l:List (List Rat)):Prop where
 o:OW x y l
section
variable {x y:Rat}
theorem Gd.adj{f g:List Rat}{l:List (List Rat)}(h:Gd x y (f::g::l)):Do f x y∨Do g x y:=by
 match l,h with
 |[],h=>exact Or.inr h.o
 |_::_,h=>exact h.o.1
theorem Gd.tail{f g:List Rat}{l:List (List Rat)}(h:Gd x y (f::g::l)):Gd x y (g::l):=by
 match l,h with
 |[],h=>exact⟨h.o⟩
 |_::_,h=>exact⟨h.o.2.2⟩
theorem Gd.same:∀(n:Nat) (l:List (List Rat)) (f:List Rat),l.length≤n→Gd x y (f::l)→Do f x y→EI (ev f x) (JJ l x)=EI (ev f y) (JJ l y):=by
 intro n;induction n with
 |zero=>
  intro l f hl _ _
  have:l=[]:=AE.1 (by omega)
  subst this;rfl
 |succ n ih=>
  intro l f hl hg hf;match l,hl,hg with
  |[],_,_=>rfl
  |g::l,hl,hg=>
   by_cases hs:Do g x y
   · obtain⟨n1,n2⟩:=Yw hs;rw[JY,JY,XI n1,XI n2,ih l g (by simp at hl;omega) hg.tail hs];have:=L3 hf hs;by_cases p:ev f x*ev g x<0
     · rw[BH p,BH (this.1 p)]
     · rw[BE p,BE (fun q=>p (this.2 q))]
   · match l,hl,hg with
     |[],_,hg=>exact absurd hg.o hs
     |h::l,hl,hg=>
      have hh:Do h x y:=(hg.tail.adj).resolve_left hs;have h3:ev f x*ev h x<0∧ev f y*ev h y<0:=hg.o.2.1 hs;rw[JY,JY,JY,JY,OV h3.1,OV h3.2,ih l h (by simp at hl;omega) hg.tail.tail hh]
theorem L4{a:Rat}(h:a≠0)(l:List Rat):DR (a::l)=EI a l:=by
 unfold DR;rw[XI h,Cy,BE (by decide)];omega
theorem IL{a b:Rat}(h:b≠0)(l:List Rat):DR (a::b::l)=(if a*b<0 then 1 else 0)+EI b l:=by
 by_cases a0:a=0
 · rw[DR,EI,BH a0,a0,Cy,XI h,Cy]
 · rw[L4 a0,XI h]
theorem Gd.stay{f:List Rat}{l:List (List Rat)}(h:Gd x y (f::l))(hf:Do f x y):DR (JJ (f::l) x)=DR (JJ (f::l) y):=by
 obtain⟨n1,n2⟩:=Yw hf;rw[JY,JY,L4 n1,L4 n2];exact h.same _ l f (Aa _) hf
theorem Gd.both{f g:List Rat}{l m:List (List Rat)}(h:Gd x y (f::l))(h2:Gd x y (g::m)){k:Rat}(hk:k≠0)(he:∀x,ev f x=k*ev g x)
(h3:¬Do g x y→∀f1 l1 g1 m1,l=f1::l1→m=g1::m1→0<k*ev f1 x*ev g1 x∧0<k*ev f1 y*ev g1 y):
 DR (JJ (f::l) x)+DR (JJ (g::m) y)=DR (JJ (f::l) y)+DR (JJ (g::m) x):=by
 have k2:0<k*k:=by
  rcases Ye 0 k with h1|h1
  · rcases Rat.le_iff_lt_or_eq.1 h1 with h2|h2
    · exact Rat.mul_pos h2 h2
    · exact absurd h2.symm hk
  · rcases Rat.le_iff_lt_or_eq.1 h1 with h2|h2
    · have:=Rat.mul_pos (a:=-k) (b:=-k) (by grind) (by grind);grind
    · exact absurd h2 hk
 have e1:ev f x*ev f y=(k*k)*(ev g x*ev g y):=by rw[he,he];grind
 by_cases hs:Do g x y
 · have hf:Do f x y:=by unfold Do at *;rw[e1];exact Rat.mul_pos k2 hs
   have:=h.stay hf;have:=h2.stay hs;omega
 · have hf:¬Do f x y:=fun q=>hs (by
    unfold Do at *;rw[e1]at q;rcases Ye (ev g x*ev g y) 0 with r|r
    · have:=Rat.mul_nonneg (a:=k*k) (b:=-(ev g x*ev g y)) (by grind) (by grind);grind
    · rcases Rat.le_iff_lt_or_eq.1 r with r|r
      · exact r
      · rw[←r]at q;grind)
   match l,m,h,h2,h3 hs with
   |[],_,h,_,_=>exact absurd h.o hf
   |_::_,[],_,h2,_=>exact absurd h2.o hs
   |f1::l1,g1::m1,h,h2,h3=>
    obtain⟨p1,p2⟩:=h3 f1 l1 g1 m1 rfl rfl;have s1:=(h.adj).resolve_left hf;have s2:=(h2.adj).resolve_left hs;obtain⟨n1,n2⟩:=Yw s1;obtain⟨n3,n4⟩:=Yw s2;rw[JY,JY,JY,JY,JY,JY,JY,JY,IL n1,IL n2,IL n3,IL n4,h.tail.same _ l1 f1 (Aa _) s1,h2.tail.same _ m1 g1 (Aa _) s2];have t:∀z,0<k*ev f1 z*ev g1 z→(ev f z*ev f1 z<0↔ev g z*ev g1 z<0):=fun z hz=>by
     have e2:ev f z*ev f1 z=ev g z*(k*ev f1 z):=by rw[he];grind
     rw[e2];by_cases gz:ev g z=0
     · rw[gz];grind
     · have g2:0<ev g z*ev g z:=by
        rcases Ye 0 (ev g z)with h1|h1
        · rcases Rat.le_iff_lt_or_eq.1 h1 with h2|h2
          · exact Rat.mul_pos h2 h2
          · exact absurd h2.symm gz
        · rcases Rat.le_iff_lt_or_eq.1 h1 with h2|h2
          · have:=Rat.mul_pos (a:=-(ev g z)) (b:=-(ev g z)) (by grind) (by grind);grind
          · exact absurd h2 gz
       exact L3 g2 hz
    have t1:=t x p1;have t2:=t y p2;by_cases q1:ev g x*ev g1 x<0<;>by_cases q2:ev g y*ev g1 y<0
    · rw[BH q1,BH q2,BH (t1.2 q1),BH (t2.2 q2)]
    · rw[BH q1,BE q2,BH (t1.2 q1),BE (fun q=>q2 (t2.1 q))];omega
    · rw[BE q1,BH q2,BE (fun q=>q1 (t1.1 q)),BH (t2.2 q2)];omega
    · rw[BE q1,BE q2,BE (fun q=>q1 (t1.1 q)),BE (fun q=>q2 (t2.1 q))]
end
def OX:List (List Rat)→Prop
 |[]=>False
 |[f]=>∃c:Rat,c≠0∧∀x,ev f x=c
 |[_,g]=>∃c:Rat,c≠0∧∀x,ev g x=c
 |f::g::h::l=>(∃(q:List Rat) (a c:Rat),0<a∧0<c∧∀x,a*ev f x=ev q x*ev g x-c*ev h x)∧OX (g::h::l)
structure StC(l:List (List Rat)):Prop where
 o:OX l
theorem StC.one{f:List Rat}{c:Rat}(h:c≠0)(k:∀x,ev f x=c):StC [f]:=⟨⟨c,h,k⟩⟩
theorem StC.two{f g:List Rat}{c:Rat}(h:c≠0)(k:∀x,ev g x=c):StC [f,g]:=⟨⟨c,h,k⟩⟩
theorem StC.more{f g h q:List Rat}{l:List (List Rat)}{a c:Rat}(ha:0<a)(hc:0<c)(k:∀x,a*ev f x=ev q x*ev g x-c*ev h x)(n:StC (g::h::l)):StC (f::g::h::l):=⟨⟨⟨q,a,c,ha,hc,k⟩,n.o⟩⟩
theorem IM:(0:Rat)<1/4:=by grind
theorem Js(c x:Rat):ev [c] x=c:=by simp[ev];grind
theorem XB{f:List Rat}{c:Rat}(hc:c≠0)(h:∀x,ev f x=c)(x y:Rat):Do f x y:=by
 unfold Do;rw[h,h];rcases Ye 0 c with h1|h1
 · rcases Rat.le_iff_lt_or_eq.1 h1 with h2|h2
   · exact Rat.mul_pos h2 h2
   · exact absurd h2.symm hc
 · rcases Rat.le_iff_lt_or_eq.1 h1 with h2|h2
   · have:=Rat.mul_pos (a:=-c) (b:=-c) (by grind) (by grind);grind
   · exact absurd h2 hc
theorem StC.cop:∀ {f g:List Rat} {l:List (List Rat)},StC (f::g::l)→∃u v:List Rat,∀x,ev u x*ev f x+ev v x*ev g x=1
 |_,_,[],⟨⟨c,hc,he⟩⟩=>by
  refine⟨[],[1/c],fun x=>?_⟩;rw[he,Js]
  have:1/c*c=1:=Aq hc
  simp[ev];grind
 |f,g,h::l,⟨⟨⟨q,a,c,ha,hc,he⟩,hn9⟩⟩=>by
  have hn:StC (g::h::l):=⟨hn9⟩;obtain⟨u,v,huv⟩:=StC.cop hn;have Qa:c≠0:=by grind
  refine⟨Jn [-(a/c)] v,Y8 u (Jn [1/c] (Jn v q)),fun x=>?_⟩;rw[Jh,Ys,Jh,Jh,Js,Js];have h1:=huv x;have h2:=he x;have h3:1/c*c=1:=Aq Qa;have h4:a/c=1/c*a:=by rw[Rat.div_def,Rat.div_def,Cx,CH]
  rw[h4];have h5:ev h x=1/c*(ev q x*ev g x-a*ev f x):=by
   have:ev h x=1/c*(c*ev h x):=by rw[←Rat.mul_assoc,h3,Cx]
   rw[this];congr 1;grind
  rw[h5]at h1;grind
theorem OY{u v f g U:Rat}(h:u*f+v*g=1)(hu:Wi U u){e:Rat}(hf:Wi e f)(he:U*e≤1/4):3/4≤v*g:=by
 have:=(hu.mul hf).2;grind
theorem StC.gd{B:Rat}(hB:0≤B):∀ {l:List (List Rat)},StC l→Sh B fun x y=>Gd x y l
 |[_],⟨⟨_,hc,he⟩⟩=>Sh.all fun x y _ _ _=>⟨XB hc he x y⟩
 |[_,_],⟨⟨_,hc,he⟩⟩=>Sh.all fun x y _ _ _=>⟨XB hc he x y⟩
 |f::g::h::l,⟨⟨⟨q,a,c,ha,hc,he⟩,hn9⟩⟩=>by
  have hn:StC (g::h::l):=⟨hn9⟩;have ih:=StC.gd hB hn;obtain⟨u,v,huv⟩:=(StC.more ha hc he hn).cop;obtain⟨u2,v2,huv2⟩:=hn.cop;obtain⟨U1,p1,U1h⟩:=XU u hB;obtain⟨U2,p2,U2h⟩:=XU v hB;obtain⟨U3,p3,U3h⟩:=XU u2 hB;obtain⟨U4,p4,U4h⟩:=XU v2 hB;obtain⟨Q,pq,Qh⟩:=XU q hB;have d:∀ {r K:Rat},0<r→0<K→K*(r/K)=r:=fun _ hK=>by rw[CH,Aq (by grind)]
  have E:=(((Hb f hB (YT IM p1)).and (Hb g hB (YT IM p2))).and ((Hb g hB (YT IM p3)).and (Hb g hB (YT (YT (show(0:Rat)<c/2 by grind) p4) pq)))).and ih;refine E.mono fun x y hx hy hxy ⟨⟨⟨tf,tg⟩,tg3,tg4⟩,ih⟩=>?_;refine⟨⟨?_,fun hn=>?_,ih.o⟩⟩
  · by_cases sf:Do f x y
    · exact Or.inl sf
    · by_cases sg:Do g x y
      · exact Or.inr sg
      · exfalso
        have h1:=OY (huv x) (U1h x hx) (tf sf).1 (by rw[d IM p1];exact Rat.le_refl);have h2:=((U2h x hx).mul (tg sg).1).2;rw[d IM p2]at h2;grind
  · have key:∀z,Wi B z→Wi (1/4/U3) (ev g z)→Wi (c/2/U4/Q) (ev g z)→ev f z*ev h z<0:=fun z hz w1 w2=>by
     have h1:=OY (huv2 z) (U3h z hz) w1 (by rw[d IM p3];exact Rat.le_refl);have h2:=(Qh z hz).mul w2;rw[d (YT (show(0:Rat)<c/2 by grind) p4) pq]at h2;have h3:=he z;have h4:=U4h z hz;have h5:Wi (c/2) (U4*(ev q z*ev g z)):=by
      have:=(show Wi U4 U4 from⟨by grind,by grind⟩).mul h2;rwa[d (show(0:Rat)<c/2 by grind) p4]at this
     have Qa:ev h z≠0:=fun e=>by rw[e]at h1;grind
     rcases Ye 0 (ev h z)with s|s
     · have s:0<ev h z:=by
        rcases Rat.le_iff_lt_or_eq.1 s with s|s
        · exact s
        · exact absurd s.symm Qa
       have h6:3/4≤U4*ev h z:=by
        have:=Rat.mul_nonneg (a:=U4-ev v2 z) (b:=ev h z) (by have:=h4.2;grind) (by grind);grind
       have h7:U4*(a*ev f z)<0:=by
        rw[h3];have:=Rat.mul_nonneg (a:=c) (b:=U4*ev h z-3/4) (by grind) (by grind);have:=h5.2;grind
       have h8:ev f z<0:=by
        rcases Ye 0 (ev f z)with r|r
        · have:=Rat.mul_nonneg (a:=U4*a) (b:=ev f z) (Rat.mul_nonneg (by grind) (by grind)) r;grind
        · rcases Rat.le_iff_lt_or_eq.1 r with r|r
          · exact r
          · rw[r]at h7;grind
       have:=Rat.mul_pos (a:=-ev f z) (b:=ev h z) (by grind) s;grind
     · have s:ev h z<0:=by
        rcases Rat.le_iff_lt_or_eq.1 s with s|s
        · exact s
        · exact absurd s Qa
       have h6:U4*ev h z≤-(3/4):=by
        have:=Rat.mul_nonneg (a:=U4+ev v2 z) (b:=-ev h z) (by have:=h4.1;grind) (by grind);grind
       have h7:0<U4*(a*ev f z):=by
        rw[h3];have:=Rat.mul_nonneg (a:=c) (b:=-(U4*ev h z)-3/4) (by grind) (by grind);have:=h5.1;grind
       have h8:0<ev f z:=by
        rcases Ye (ev f z) 0 with r|r
        · have:=Rat.mul_nonneg (a:=U4*a) (b:=-ev f z) (Rat.mul_nonneg (by grind) (by grind)) (by grind);grind
        · rcases Rat.le_iff_lt_or_eq.1 r with r|r
          · exact r
          · rw[←r]at h7;grind
       have:=Rat.mul_pos (a:=ev f z) (b:=-ev h z) h8 (by grind);grind
    exact⟨key x hx (tg3 hn).1 (tg4 hn).1,key y hy (tg3 hn).2 (tg4 hn).2⟩
theorem steps{d:Rat}(hd:0<d)(a b:Rat):∃n:Nat,b-a≤(n:Rat)*d:=by
 obtain⟨q,hq⟩:=ex ((b-a)/d);refine⟨q.ceil.toNat,?_⟩;have e:b-a=q*d:=by rw[←hq,Aq (by grind)]
 rw[e];have h1:q≤(q.ceil.toNat:Rat):=by
  have h2:q≤(q.ceil:Rat):=Rat.le_ceil;have h4:(q.ceil:Rat)≤((q.ceil.toNat:Int):Rat):=Rat.intCast_le_intCast.2 (Int.self_le_toNat _);exact Rat.le_trans h2 h4
 have:=Rat.mul_nonneg (a:=(q.ceil.toNat:Rat)-q) (b:=d) (by grind) (by grind);grind
theorem glue{B:Rat}{F G:Rat→Nat}(h:Sh B fun x y=>F x+G y=F y+G x){a b:Rat}(ha:Wi B a)(hb:Wi B b)(hab:a≤b):F a+G b=F b+G a:=by
 obtain⟨d,d0,h⟩:=h;obtain⟨n,hn⟩:=steps d0 a b
 have:∀(n:Nat) (a:Rat),Wi B a→a≤b→b-a≤(n:Rat)*d→F a+G b=F b+G a:=by
  intro n;induction n with
  |zero=>
   intro a ha hab h0;have e:a=b:=by
    have:((0:Nat):Rat)=0:=rfl
    rw[this]at h0;grind
   rw[e]
  |succ n ih=>
   intro a ha hab h0;have e1:((n+1:Nat):Rat)=(n:Rat)+1:=by rw[Rat.natCast_add];rfl
   rw[e1]at h0;rcases Ye (b-a) d with h1|h1
   · exact h a b ha hb hab h1
   · have hc:Wi B (a+d):=⟨by have:=ha.1;grind,by have:=hb.2;grind⟩;have h2:=h a (a+d) ha hc (by grind) (by grind);have h3:=ih (a+d) hc (by grind) (by grind);omega
 exact this n a ha hab hn
theorem XJ(a:Rat):0≤a*a:=by
 rcases Ye 0 a with h|h
 · exact Rat.mul_nonneg h h
 · have:=Rat.mul_nonneg (a:=-a) (b:=-a) (by grind) (by grind);grind
theorem I5{V v:Rat}(h:Wi V v):v*v≤V*V:=by
 have:=Rat.mul_nonneg (a:=V-v) (b:=V+v) (by have:=h.2;grind) (by have:=h.1;grind);grind
theorem SV{u v w y a w2 y2 U V Y W2 Y2 e:Rat}(hu:Wi U u)(hv:Wi V v)(hy:Wi Y y)(ha:Wi e a)(h2:Wi W2 w2)(hy2:Wi Y2 y2)(huv:u*w+v*y=1)(hw:w=a*w2)
(e1:U*(e*W2)≤1/4)(e2:(V*V)*(e*(Y*Y2))≤1/16):1/2≤(V*V)*(y*(y-a*y2)):=by
 have h1:=(hu.mul (ha.mul h2)).2;rw[←hw]at h1;have h3:3/4≤v*y:=by grind
 have h4:=Rat.mul_nonneg (a:=V*V-v*v) (b:=y*y) (by have:=I5 hv;grind) (XJ y);have h5:=Rat.mul_nonneg (a:=v*y-3/4) (b:=v*y+3/4) (by grind) (by grind);have h6:=(ha.mul (hy.mul hy2)).2;have h7:=Rat.mul_nonneg (a:=V*V) (b:=e*(Y*Y2)-a*(y*y2)) (XJ V) (by grind);grind
theorem SW{u v w y a a1 w2 d2 y2 U V A A1 W1 Y2 e n:Rat}(hu:Wi U u)(hv:Wi V v)(ha:Wi A a)(ha1:Wi A1 a1)(h2:Wi e w2)(hd:Wi W1 d2)(hy2:Wi Y2 y2)(huv:u*w+v*y=1)(hw:w=a*w2)
(hy:y=a1*w2+a*(d2+y2))(hn:0<n)(hp:n≤y2*d2)(e1:U*(A*e)≤1/4)(e2:V*(A1*e)≤1/4)
(e3:((V*(W1+Y2))*(V*(W1+Y2)))*((A1*e)*(A*(W1+W1+Y2)))≤n/8):n/8≤((V*(W1+Y2))*(V*(W1+Y2)))*(y*(a1*w2+a*d2)):=by
 obtain⟨M,hM⟩:=ex (V*(W1+Y2));have hm:=hv.mul (hd.add hy2);rw[hM]at hm e3 ⊢;have h1:=(hu.mul (ha.mul h2)).2;rw[←hw]at h1;obtain⟨t,ht⟩:=ex (a1*w2);have wt:=ha1.mul h2;rw[ht]at wt hy ⊢;have h3:=(hv.mul wt).2;have h4:v*y=v*t+a*(v*(d2+y2)):=by rw[hy];grind
 obtain⟨q,hq⟩:=ex (v*(d2+y2));rw[hq]at h4 hm;have h5:1/2≤a*q:=by grind
 have h6:=Rat.mul_nonneg (a:=a*a) (b:=M*M-q*q) (XJ a) (by have:=I5 hm;grind);have h7:=Rat.mul_nonneg (a:=a*q-1/2) (b:=a*q+1/2) (by grind) (by grind);have h8:1/4≤(a*a)*(M*M):=by grind
 have h9:=Rat.mul_nonneg (a:=(a*a)*(M*M)-1/4) (b:=n) (by grind) (by grind);have h10:=Rat.mul_nonneg (a:=(a*a)*(M*M)) (b:=y2*d2-n) (by grind) (by grind);have h11:=Rat.mul_nonneg (a:=(a*a)*(M*M)) (b:=d2*d2) (by grind) (XJ d2);have h12:=Rat.mul_nonneg (a:=M*M) (b:=t*t) (XJ M) (XJ t);have h13:=(wt.mul (ha.mul ((hd.add hd).add hy2))).1;have h14:=Rat.mul_nonneg (a:=M*M) (b:=t*(a*(d2+d2+y2))+(A1*e)*(A*(W1+W1+Y2))) (XJ M) (by grind);have Qa:y*(t+a*d2)=t*t+t*(a*(d2+d2+y2))+(a*a)*(d2*d2)+(a*a)*(y2*d2):=by rw[hy];grind
 rw[Qa];grind
theorem small{K r:Rat}(hK:0≤K)(hr:0<r):∃e,0<e∧∀f,f≤e→K*f≤r:=by
 refine⟨r/(K+1),YT hr (by grind),fun f hf=>?_⟩;have h1:r/(K+1)*(K+1)=r:=Aq (by grind);have h2:=Rat.mul_nonneg (a:=K) (b:=r/(K+1)-f) hK (by grind);have h3:=YT hr (show(0:Rat)<K+1 by grind);grind
theorem OZ{s:Rat}(hs:s*s=1):∀(p:List Rat),Jc p=p→p≠[]→∃B e:Rat,0<B∧0<e∧∀x,B≤x→e≤s^(p.length-1)*cf p (p.length-1)*ev p (s*x):=by
 intro p;induction p with
 |nil=>intro _ h;exact absurd rfl h
 |cons c t ih=>
  intro tp p0;by_cases t0:t=[]
  · subst t0;have c0:c≠0:=by
     have:=Jq tp p0;simpa[cf]using this
    refine⟨1,c*c,by decide,?_,fun x _=>?_⟩
    · have:=XB (f:=[c]) c0 (fun x=>Js c x) 0 0;unfold Do at this;rwa[Js]at this
    · rw[Js];simp[cf]
  · have tt:Jc t=t:=by
     refine YR (Or.inr ?_);have:=Jq tp p0;have hl:=Af.2 t0;rw[Ad,show t.length+1-1=(t.length-1)+1 by omega,JI]at this;exact this
    obtain⟨B,e,hB,he,h⟩:=ih tt t0;have hl:=Af.2 t0;obtain⟨n,hn⟩:∃n,t.length=n+1:=⟨t.length-1,by omega⟩;have hk:cf (c::t) ((c::t).length-1)=cf t n:=by
     rw[Ad,hn,show n+1+1-1=n+1 by omega,JI]
    rw[hk,Ad,hn,show n+1+1-1=n+1 by omega];rw[hn,show n+1-1=n by omega]at h;generalize cf t n=k at *;obtain⟨D,hD,hd⟩:=Yt (s^(n+1)*k*c);refine⟨B+(D+e)/e,e,?_,he,fun x hx=>?_⟩
    · have:=YT (a:=D+e) (b:=e) (by grind) he;grind
    · have h0:=YT (a:=D+e) (b:=e) (by grind) he;have h1:=h x (by grind);have h2:(D+e)/e*e=D+e:=Aq (by grind);rw[IK];have h3:s^(n+1)*k*(c+s*x*ev t (s*x))=s^(n+1)*k*c+x*(s^n*k*ev t (s*x)):=by
       rw[Rat.pow_succ];grind
      rw[h3];have h4:=Rat.mul_nonneg (a:=x) (b:=s^n*k*ev t (s*x)-e) (by grind) (by grind);have h5:=Rat.mul_nonneg (a:=x-(D+e)/e) (b:=e) (by grind) (by grind);have h6:=hd.1;grind
theorem SZ{p:List Rat}(tp:Jc p=p)(p0:p≠[]):∃B,0<B∧∀x,B≤x→0<cf p (p.length-1)*ev p x:=by
 obtain⟨B,e,h1,h2,h3⟩:=OZ (s:=1) (by grind) p tp p0;refine⟨B,h1,fun x hx=>?_⟩;have h4:=h3 x hx;have e1:∀n:Nat,(1:Rat)^n=1:=fun n=>by
  induction n with
  |zero=>rfl
  |succ n ih=>rw[Rat.pow_succ,ih];grind
 rw[e1,Cx,Cx]at h4;grind
theorem Sa{p:List Rat}(tp:Jc p=p)(p0:p≠[]):∃B,0<B∧∀x,x≤-B→0<(-1)^(p.length-1)*cf p (p.length-1)*ev p x:=by
 obtain⟨B,e,h1,h2,h3⟩:=OZ (s:=-1) (by grind) p tp p0;refine⟨B,h1,fun x hx=>?_⟩;have h4:=h3 (-x) (by grind);rw[show(-1:Rat)*-x=x by grind]at h4;grind
theorem Oa:∀(l m:List Rat) (a b:Rat),l.length=m.length→(∀i (h1:i<l.length) (h2:i<m.length),0<l[i]*m[i])→(0<a*b∨(a=0∧b=0))→EI a l=EI b m:=by
 intro l;induction l with
 |nil=>intro m a b h _ _;cases m with|nil=>rfl|cons=>simp at h
 |cons c l ih=>
  intro m a b h h2 h3;cases m with
  |nil=>simp at h
  |cons d m=>
   have hd:0<c*d:=h2 0 (by simp) (by simp);obtain⟨n1,n2⟩:=Yw hd;have e1:=ih m c d (by simpa using h) (fun i h1 h4=>h2 (i+1) (by simp;omega) (by simp;omega)) (Or.inl hd);rw[XI n1,XI n2,e1];rcases h3 with h3|⟨rfl,rfl⟩
   · have:=L3 h3 hd;by_cases q:a*c<0
     · rw[BH q,BH (this.1 q)]
     · rw[BE q,BE (fun r=>q (this.2 r))]
   · rw[Cy,Cy]

