set_option maxRecDepth 100000
set_option maxHeartbeats 16000000
namespace Go.Proofs.YtcahejkcdcjjgaaGreatDoor
def cf (p:List Rat) (i:Nat):Rat:=p[i]?.getD 0
theorem Yu (i:Nat):cf [] i=0:=by simp [cf]
theorem Yd (c:Rat) (t:List Rat):cf (c::t) 0=c:=by simp [cf]
theorem JI (c:Rat) (t:List Rat) (i:Nat):cf (c::t) (i+1)=cf t i:=by simp [cf]
theorem J7 {p:List Rat} {i:Nat} (h:p.length≤i):cf p i=0:=by simp [cf,List.getElem?_eq_none h]
theorem Joo {p:List Rat} {i:Nat} (h:i<p.length):cf p i=p[i]:=by simp [cf,List.getElem?_eq_getElem h]
theorem XI (p:List Rat) (k:Nat) (c:Rat) (i:Nat) (hk:k<p.length):cf (p.set k c) i=if i=k then c else cf p i:=by
 unfold cf;by_cases h:i=k
 · subst h;rw [if_pos rfl,List.getElem?_set_self hk];rfl
 · rw [if_neg h,List.getElem?_set_ne (fun e=>h e.symm)]
theorem JO (n:Nat) (i:Nat):cf (List.replicate n 0) i=0:=by
 unfold cf;rw [List.getElem?_replicate];split <;> rfl
theorem Jh4 (n:Nat) (f:Nat→Rat) (i:Nat):cf ((List.range n).map f) i=if i<n then f i else 0:=by
 unfold cf;rw [List.getElem?_map];by_cases h:i<n
 · rw [List.getElem?_range h,if_pos h];rfl
 · rw [List.getElem?_eq_none (by simp;omega),if_neg h];rfl
theorem Jh5 (p:List Rat) (n i:Nat):cf (p.take n) i=if i<n then cf p i else 0:=by
 unfold cf;rw [List.getElem?_take];split <;> rfl
def Ji:List Rat→List Rat
 | []=>[]
 | c::t=>match Ji t with
  | []=>if c=0 then [] else [c]
  | d::s=>c::d::s
theorem JY (p:List Rat) (i:Nat):cf (Ji p) i=cf p i:=by
 induction p generalizing i with
 | nil=>rfl
 | cons c t ih=>
  have h0:=ih;rw [Ji];split
  · rename_i h;rw [h] at h0;cases i with
    | zero=>split <;> simp_all [cf]
    | succ i=>
     rw [JI,←h0 i,Yu];split
     · rfl
     · rw [JI,Yu]
  · rename_i d s h;rw [←h];cases i with
    | zero=>rfl
    | succ i=>rw [JI,JI,h0]
theorem Jd2 {p:List Rat} (h:∀ i,cf p i=0):Ji p=[]:=by
 induction p with
 | nil=>rfl
 | cons c t ih=>
  have h1:=ih (fun i=>by rw [←JI c t i];exact h (i+1));have h2:c=0:=by rw [←Yd c t];exact h 0
  rw [Ji,h1];show (if c=0 then [] else [c])=[];rw [if_pos h2]
theorem Jae {p q:List Rat} (h:∀ i,cf p i=cf q i):Ji p=Ji q:=by
 induction p generalizing q with
 | nil=>rw [Jd2 (p:=q) (fun i=>by rw [←h i,Yu])];rfl
 | cons c t ih=>
  cases q with
  | nil=>rw [Jd2 (p:=c::t) (fun i=>by rw [h i,Yu])];rfl
  | cons d s=>
   have h1:c=d:=by have:=h 0;rwa [Yd,Yd] at this
   have h2:=ih (q:=s) (fun i=>by have:=h (i+1);rwa [JI,JI] at this);rw [Ji,Ji,h1,h2]
theorem Yx (p:List Rat):Ji (Ji p)=Ji p:=Jae (JY p)
theorem JZ (p:List Rat):(Ji p).length≤p.length:=by
 induction p with
 | nil=>exact Nat.le_refl _
 | cons c t ih=>
  rw [Ji];split
  · split <;> simp
  · rename_i d s h;rw [h] at ih;simp only [List.length_cons] at ih ⊢;omega
theorem J1 {p:List Rat} (h:Ji p=p) (h0:p≠[]):cf p (p.length - 1)≠0:=by
 induction p with
 | nil=>exact absurd rfl h0
 | cons c t ih=>
  rw [Ji] at h;split at h
  · rename_i h1;split at h
    · cases h
    · rename_i h2;simp only [List.cons.injEq,true_and] at h;subst h;simpa [cf] using h2
  · rename_i d s h1;simp only [List.cons.injEq,true_and] at h;have h2:Ji t=t:=by rw [h1,h]
    have h3:=ih h2 (by rw [←h];simp);have e:(c::t).length - 1=(t.length - 1)+1:=by rw [←h];simp
    rw [e,JI];exact h3
theorem Jax {p:List Rat} (h:p=[]∨cf p (p.length - 1)≠0):Ji p=p:=by
 induction p with
 | nil=>rfl
 | cons c t ih=>
  rcases h with h | h
  · cases h
  · cases t with
    | nil=>rw [Ji];show (if c=0 then [] else [c])=[c];rw [if_neg (by simpa [cf] using h)]
    | cons d s=>
     have e:(c::d::s).length - 1=((d::s).length - 1)+1:=by simp
     rw [e,JI] at h;rw [Ji,ih (Or.inr h)]
theorem Jm5 {p:List Rat} {n:Nat} (hn:n≤p.length) (h1:n=0∨cf p (n - 1)≠0) (h2:∀ j,n≤j→cf p j=0):Ji p=p.take n:=by
 have e:Ji p=Ji (p.take n):=Jae fun i=>by
  rw [Jh5];split
  · rfl
  · exact h2 i (by omega)
 rw [e];refine Jax ?_;rcases h1 with h1 | h1
 · left;rw [h1];rfl
 · by_cases h0:n=0
   · left;rw [h0];rfl
   · right
     rw [List.length_take,Nat.min_eq_left hn,Jh5,if_pos (by omega)];exact h1
theorem XJ {p:List Rat} {n:Nat} (h:∀ j,n≤j→cf p j=0):(Ji p).length≤n:=by
 rcases Nat.lt_or_ge n (Ji p).length with h1 | h1
 · have h2:=J1 (Yx p) (by intro h3;rw [h3] at h1;simp at h1);rw [JY] at h2;exact absurd (h _ (by omega)) h2
 · exact h1
def ev:List Rat→Rat→Rat
 | [],_=>0
 | c::t,x=>c+x*ev t x
theorem Jdb {p:List Rat} (h:∀ i,cf p i=0) (x:Rat):ev p x=0:=by
 induction p with
 | nil=>rfl
 | cons c t ih=>
  have h1:=ih (fun i=>by rw [←JI c t i];exact h (i+1));have h2:c=0:=by rw [←Yd c t];exact h 0
  rw [ev,h1,h2];grind
theorem Je5 {p q:List Rat} (h:∀ i,cf p i=cf q i) (x:Rat):ev p x=ev q x:=by
 induction p generalizing q with
 | nil=>rw [Jdb (p:=q) (fun i=>by rw [←h i,Yu])];rfl
 | cons c t ih=>
  cases q with
  | nil=>rw [Jdb (p:=c::t) (fun i=>by rw [h i,Yu])];rfl
  | cons d s=>
   have h1:c=d:=by have:=h 0;rwa [Yd,Yd] at this
   have h2:=ih (q:=s) (fun i=>by have:=h (i+1);rwa [JI,JI] at this);rw [ev,ev,h1,h2]
theorem XA (p:List Rat) (x:Rat):ev (Ji p) x=ev p x:=Je5 (JY p) x
def dv:List Rat→Rat→Rat
 | [],_=>0
 | _::t,x=>ev t x+x*dv t x
theorem Jma {p:List Rat} (h:∀ i,cf p i=0) (x:Rat):dv p x=0:=by
 induction p with
 | nil=>rfl
 | cons c t ih=>
  have h0:∀ i,cf t i=0:=fun i=>by rw [←JI c t i];exact h (i+1)
  rw [dv,ih h0,Jdb h0];grind
theorem Jsp {p q:List Rat} (h:∀ i,cf p i=cf q i) (x:Rat):dv p x=dv q x:=by
 induction p generalizing q with
 | nil=>rw [Jma (p:=q) (fun i=>by rw [←h i,Yu])];rfl
 | cons c t ih=>
  cases q with
  | nil=>rw [Jma (p:=c::t) (fun i=>by rw [h i,Yu])];rfl
  | cons d s=>
   have h2:∀ i,cf t i=cf s i:=fun i=>by have:=h (i+1);rwa [JI,JI] at this
   rw [dv,dv,ih h2,Je5 h2]
def Jh6:List Rat→Rat→List Rat
 | [],_=>[]
 | _::t,a=>match t with
  | []=>[]
  | d::s=>ev (d::s) a::Jh6 (d::s) a
theorem Ji5 (p:List Rat) (a:Rat):(Jh6 p a).length=p.length - 1:=by
 induction p with
 | nil=>rfl
 | cons c t ih=>
  cases t with
  | nil=>rfl
  | cons d s=>
   rw [Jh6,List.length_cons,ih];simp
theorem Jmb (p:List Rat) (a x:Rat):ev p x=ev p a+(x - a)*ev (Jh6 p a) x:=by
 induction p with
 | nil=>simp [ev,Jh6];grind
 | cons c t ih=>
  cases t with
  | nil=>simp [ev,Jh6];grind
  | cons d s=>
   rw [Jh6];generalize hq:d::s=q at *;rw [ev,ev,ev,ih];grind
theorem Jqt {p:List Rat} {m:Nat} (h:∀ n:Nat,m≤n→ev p (n:Rat)=0) (x:Rat):ev p x=0:=by
 obtain ⟨k,hk⟩:∃ k,p.length=k:=⟨_,rfl⟩;induction k generalizing p m with
 | zero=>
  have:p=[]:=List.eq_nil_of_length_eq_zero hk;rw [this];rfl
 | succ k ih=>
  have h0:=h m (Nat.le_refl _);have h1:∀ n:Nat,m+1≤n→ev (Jh6 p m) (n:Rat)=0:=fun n hn=>by
   have h2:=Jmb p (m:Rat) (n:Rat);rw [h n (by omega),h0] at h2;have h3:((n:Rat) - (m:Rat))≠0:=by
    intro h4;have h5:(n:Rat)=(m:Rat):=by grind
    have:=Rat.natCast_inj.1 h5;omega
   have h6:((n:Rat) - (m:Rat))*ev (Jh6 p m) n=0:=by grind
   rcases Rat.mul_eq_zero.1 h6 with h7 | h7
   · exact absurd h7 h3
   · exact h7
  have h2:=ih h1 (by rw [Ji5,hk];rfl);rw [Jmb p (m:Rat) x,h0,h2];grind
theorem Jqu {p:List Rat} (h:∀ x,ev p x=0) (i:Nat):cf p i=0:=by
 induction p generalizing i with
 | nil=>rfl
 | cons c t ih=>
  have h0:c=0:=by have:=h 0;rw [ev] at this;grind
  have h1:∀ x,ev t x=0:=fun x=>Jqt (m:=1) (fun n hn=>by
   have h2:=h (n:Rat);rw [ev,h0] at h2;have h3:(n:Rat)≠0:=fun h4=>by
    have h5:(n:Rat)=((0:Nat):Rat):=h4;have:=Rat.natCast_inj.1 h5;omega
   have h6:(n:Rat)*ev t n=0:=by grind
   rcases Rat.mul_eq_zero.1 h6 with h7 | h7
   · exact absurd h7 h3
   · exact h7) x
  cases i with
  | zero=>rw [Yd];exact h0
  | succ i=>rw [JI];exact ih h1 i
def Xe:List Rat→List Rat→List Rat
 | [],q=>q
 | p,[]=>p
 | c::t,d::s=>(c+d)::Xe t s
def Yz (a:Rat) (p:List Rat):List Rat:=p.map (fun c=>c*a)
def Jay:List Rat→List Rat→List Rat
 | [],_=>[]
 | c::t,q=>Xe (Yz c q) (0::Jay t q)
theorem XV (p q:List Rat) (i:Nat):cf (Xe p q) i=cf p i+cf q i:=by
 induction p generalizing q i with
 | nil=>rw [Xe,Yu];grind
 | cons c t ih=>
  cases q with
  | nil=>
   rw [Xe,Yu]
   · grind
   · intro h;cases h
  | cons d s=>
   rw [Xe];cases i with
   | zero=>simp [cf]
   | succ i=>rw [JI,JI,JI,ih]
theorem XF (a:Rat) (p:List Rat) (i:Nat):cf (Yz a p) i=cf p i*a:=by
 unfold cf Yz;rw [List.getElem?_map];cases p[i]? with
 | none=>simp
 | some c=>rfl
theorem Xj (p q:List Rat) (x:Rat):ev (Xe p q) x=ev p x+ev q x:=by
 induction p generalizing q with
 | nil=>rw [Xe,ev];grind
 | cons c t ih=>
  cases q with
  | nil=>
   rw [Xe]
   · rw [show ev [] x=0 from rfl];grind
   · intro h;cases h
  | cons d s=>rw [Xe,ev,ev,ev,ih];grind
theorem YY (a:Rat) (p:List Rat) (x:Rat):ev (Yz a p) x=ev p x*a:=by
 induction p with
 | nil=>simp [Yz,ev]
 | cons c t ih=>
  rw [show Yz a (c::t)=(c*a)::Yz a t from rfl,ev,ev,ih];grind
theorem Jh7 (p q:List Rat) (x:Rat):ev (Jay p q) x=ev p x*ev q x:=by
 induction p with
 | nil=>rw [Jay,ev];grind
 | cons c t ih=>rw [Jay,Xj,YY,ev,ev,ih];grind
theorem Jqv (p q:List Rat) (x:Rat):dv (Xe p q) x=dv p x+dv q x:=by
 induction p generalizing q with
 | nil=>rw [Xe,dv];grind
 | cons c t ih=>
  cases q with
  | nil=>
   rw [Xe]
   · rw [show dv [] x=0 from rfl];grind
   · intro h;cases h
  | cons d s=>rw [Xe,dv,dv,dv,ih,Xj];grind
theorem Jm6 (a:Rat) (p:List Rat) (x:Rat):dv (Yz a p) x=dv p x*a:=by
 induction p with
 | nil=>simp [Yz,dv]
 | cons c t ih=>
  rw [show Yz a (c::t)=(c*a)::Yz a t from rfl,dv,dv,ih,YY];grind
theorem Jqw (p q:List Rat) (x:Rat):dv (Jay p q) x=dv p x*ev q x+ev p x*dv q x:=by
 induction p with
 | nil=>rw [Jay,dv,ev];grind
 | cons c t ih=>rw [Jay,Jqv,Jm6,dv,dv,ev,ih,Jh7];grind
theorem Je6 {p q:List Rat} (h:∀ x,ev p x=ev q x):Ji p=Ji q:=by
 have h1:∀ i,cf (Xe p (Yz (-1) q)) i=0:=Jqu (fun x=>by rw [Xj,YY,h x];grind);refine Jae fun i=>?_;have:=h1 i;rw [XV,XF] at this;grind
def sumN:Nat→(Nat→Rat)→Rat
 | 0,_=>0
 | n+1,f=>sumN n f+f n
theorem Jkz {n:Nat} {f g:Nat→Rat} (h:∀ k,k<n→f k=g k):sumN n f=sumN n g:=by
 induction n with
 | zero=>rfl
 | succ n ih=>rw [sumN,sumN,ih (fun k hk=>h k (by omega)),h n (by omega)]
theorem Jd3 {n:Nat} {f:Nat→Rat} (h:∀ k,k<n→f k=0):sumN n f=0:=by
 induction n with
 | zero=>rfl
 | succ n ih=>rw [sumN,ih (fun k hk=>h k (by omega)),h n (by omega)];grind
theorem Jk0 (n:Nat) (f:Nat→Rat):sumN (n+1) f=f 0+sumN n (fun k=>f (k+1)):=by
 induction n with
 | zero=>simp [sumN];grind
 | succ n ih=>rw [sumN,ih,sumN];grind
def conv (p q:List Rat) (n k:Nat):Rat:=sumN n (fun i=>if i≤k then cf p i*cf q (k - i) else 0)
theorem Jaz (p q:List Rat) (k:Nat):cf (Jay p q) k=conv p q p.length k:=by
 induction p generalizing k with
 | nil=>rfl
 | cons c t ih=>
  rw [Jay,XV,XF,conv,List.length_cons,Jk0];rw [if_pos (Nat.zero_le _),Yd,Nat.sub_zero];have e:cf (0::Jay t q) k=sumN t.length (fun i=>if i+1≤k then cf (c::t) (i+1)*cf q (k - (i+1)) else 0):=by
   cases k with
   | zero=>
    rw [Yd,Jd3];intro i hi;rw [if_neg (by omega)]
   | succ k=>
    rw [JI,ih,conv];refine Jkz fun i hi=>?_;by_cases h:i≤k
    · rw [if_pos h,if_pos (by omega),JI,show k+1 - (i+1)=k - i from by omega]
    · rw [if_neg h,if_neg (by omega)]
  rw [e];grind
theorem Jk1 {p q:List Rat} {k:Nat} (h:p.length+q.length≤k+1):cf (Jay p q) k=0:=by
 rw [Jaz];refine Jd3 fun i hi=>?_;split
 · rw [J7 (p:=q) (by omega)];grind
 · rfl
theorem Ji6 (p q:List Rat) (m n:Nat) (hp:p.length=m+1) (hq:q.length=n+1):cf (Jay p q) (m+n)=cf p m*cf q n:=by
 rw [Jaz,hp,conv,sumN,if_pos (by omega),show m+n - m=n from by omega];rw [Jd3]
 · grind
 · intro i hi;split
   · rw [J7 (p:=q) (by omega)];grind
   · rfl
theorem Jaf {p q:List Rat} (hp:Ji p=p) (hq:Ji q=q) (hp0:p≠[]) (hq0:q≠[]):(Ji (Jay p q)).length=p.length+q.length - 1:=by
 have h1:=J1 hp hp0;have h2:=J1 hq hq0;have l1:0<p.length:=List.length_pos_iff.2 hp0;have l2:0<q.length:=List.length_pos_iff.2 hq0;have h3:=Ji6 p q (p.length - 1) (q.length - 1) (by omega) (by omega);have h4:cf (Jay p q) (p.length - 1+(q.length - 1))≠0:=by
  rw [h3];intro h5;rcases Rat.mul_eq_zero.1 h5 with h6 | h6
  · exact h1 h6
  · exact h2 h6
 have h5:(Ji (Jay p q)).length≤p.length+q.length - 1:=XJ fun j hj=>Jk1 (by omega);rcases Nat.lt_or_ge (Ji (Jay p q)).length (p.length+q.length - 1) with h6 | h6
 · rw [←JY] at h4;exact absurd (J7 (by omega)) h4
 · omega
def Jcx (p:List Rat):List Rat:=(List.range (p.length - 1)).map (fun i=>cf p (i+1)*((i+1:Nat):Rat))
theorem Jag (p:List Rat) (i:Nat):cf (Jcx p) i=cf p (i+1)*((i+1:Nat):Rat):=by
 unfold Jcx;rw [Jh4];split
 · rfl
 · rw [J7 (by omega)];grind
theorem Jm7 (p:List Rat) (x:Rat):ev (Jcx p) x=dv p x:=by
 induction p with
 | nil=>rfl
 | cons c t ih=>
  have e:∀ i,cf (Jcx (c::t)) i=cf (Xe t (0::Jcx t)) i:=fun i=>by
   rw [Jag,XV,JI];cases i with
   | zero=>rw [Yd];grind
   | succ i=>rw [JI,Jag];grind
  rw [Je5 e,Xj,ev,ih,dv];grind
theorem Jgu (p:List Rat):Xe p []=p:=by cases p <;> rfl
theorem Jh8 {q u v u' v':List Rat} (hq:Ji q=q) (hq0:q≠[]) (hu:Ji u=u) (hu':Ji u'=u') (hv:Ji v=v) (hv':Ji v'=v') (lv:v.length<q.length) (lv':v'.length<q.length)
 (h:∀ x,ev q x*ev u x+ev v x=ev q x*ev u' x+ev v' x):u=u'∧v=v':=by
 obtain ⟨d,hd⟩:∃ d,Ji (Xe u (Yz (-1) u'))=d:=⟨_,rfl⟩;have hdt:Ji d=d:=by rw [←hd,Yx]
 have hdx:∀ x,ev d x=ev u x - ev u' x:=fun x=>by rw [←hd,XA,Xj,YY];grind
 have hev:∀ x,ev (Jay d q) x=ev (Xe v' (Yz (-1) v)) x:=fun x=>by
  rw [Jh7,Xj,YY,hdx];have:=h x;grind
 have h1:=Je6 hev;have h2:(Ji (Xe v' (Yz (-1) v))).length<q.length:=by
  refine Nat.lt_of_le_of_lt (XJ (n:=q.length - 1) fun j hj=>?_) (by omega);rw [XV,XF,J7 (by omega),J7 (by omega)];grind
 have hd0:d=[]:=by
  by_cases h3:d=[]
  · exact h3
  · have h4:=Jaf hdt hq h3 hq0;have h5:0<d.length:=List.length_pos_iff.2 h3;rw [h1] at h4;omega
 have e1:∀ x,ev u x=ev u' x:=fun x=>by
  have:=hdx x;rw [hd0,show ev [] x=0 from rfl] at this;grind
 have e2:u=u':=by rw [←hu,←hu'];exact Je6 e1
 refine ⟨e2,?_⟩;rw [←hv,←hv'];exact Je6 fun x=>by
  have:=h x;rw [e2] at this;grind
def upR (i:Nat) (q:List Rat):List Rat:=List.replicate i 0++q
theorem Jd4 (i:Nat) (q:List Rat) (k:Nat):cf (upR i q) k=if i≤k then cf q (k - i) else 0:=by
 unfold cf upR;by_cases h:k<i
 · rw [List.getElem?_append_left (by simpa using h),if_neg (by omega),List.getElem?_replicate];split <;> rfl
 · rw [List.getElem?_append_right (by simp;omega),if_pos (by omega)];simp
theorem Jh9 (i:Nat) (q:List Rat) (x:Rat):ev (upR i q) x=x ^ i*ev q x:=by
 induction i with
 | zero=>rw [show upR 0 q=q from rfl];grind
 | succ i ih=>
  rw [show upR (i+1) q=0::upR i q from rfl,ev,ih];grind
def Yl (z:List Rat) (i:Nat) (a:Rat) (q:List Rat):Nat→List Rat
 | 0=>z
 | j+1=>(Yl z i a q j).set (i+j) (cf (Yl z i a q j) (i+j)+a*cf q j)
theorem Ye (z:List Rat) (i:Nat) (a:Rat) (q:List Rat) (j:Nat):(Yl z i a q j).length=z.length:=by
 induction j with
 | zero=>rfl
 | succ j ih=>rw [Yl,List.length_set,ih]
theorem Jop (z:List Rat) (i:Nat) (a:Rat) (q:List Rat) (j k:Nat) (h:i+j≤z.length):cf (Yl z i a q j) k=cf z k+(if i≤k∧k<i+j then a*cf q (k - i) else 0):=by
 induction j with
 | zero=>rw [Yl,if_neg (by omega)];grind
 | succ j ih=>
  have ih:=ih (by omega);rw [Yl,XI _ _ _ _ (by rw [Ye];omega)];by_cases h1:k=i+j
  · subst h1;rw [if_pos rfl,ih,if_neg (by omega),if_pos (by omega),show i+j - i=j from by omega];grind
  · rw [if_neg h1,ih];by_cases h2:i≤k∧k<i+j
    · rw [if_pos h2,if_pos (by omega)]
    · rw [if_neg h2,if_neg (by omega)]
theorem Ja0 (z:List Rat) (i:Nat) (a:Rat) (q:List Rat) (k:Nat) (h:i+q.length≤z.length):cf (Yl z i a q q.length) k=cf z k+a*cf (upR i q) k:=by
 rw [Jop _ _ _ _ _ _ h,Jd4];by_cases h1:i≤k
 · by_cases h2:k<i+q.length
   · rw [if_pos ⟨h1,h2⟩,if_pos h1]
   · rw [if_neg (by omega),if_pos h1,J7 (p:=q) (by omega)];grind
 · rw [if_neg (by omega),if_neg h1];grind
theorem Joq (z:List Rat) (i:Nat) (a:Rat) (q:List Rat) (x:Rat) (h:i+q.length≤z.length):ev (Yl z i a q q.length) x=ev z x+a*(x ^ i*ev q x):=by
 have e:∀ k,cf (Yl z i a q q.length) k=cf (Xe z (Yz a (upR i q))) k:=fun k=>by
  rw [Ja0 _ _ _ _ _ h,XV,XF];grind
 rw [Je5 e,Xj,YY,Jh9];grind
def YC (p q:List Rat) (n:Nat):Nat→List Rat
 | 0=>List.replicate n 0
 | i+1=>Yl (YC p q n i) i (cf p i) q q.length
theorem Ja1 (p q:List Rat) (n i:Nat):(YC p q n i).length=n:=by
 induction i with
 | zero=>rw [YC,List.length_replicate]
 | succ i ih=>rw [YC,Ye,ih]
theorem Je7 (p q:List Rat) (n i k:Nat) (h:i=0∨i+q.length≤n+1):cf (YC p q n i) k=conv p q i k:=by
 induction i with
 | zero=>rw [YC,JO];rfl
 | succ i ih=>
  rw [YC,Ja0 _ _ _ _ _ (by rw [Ja1];omega),ih (by omega),Jd4];show _=conv p q i k+_
  dsimp only;split <;> grind
def Jv (p q:List Rat) (n m:Nat):Nat→List Rat × List Rat
 | 0=>(List.replicate m 0,p)
 | k+1=>
  let s:=Jv p q n m k
  let i:=m - (k+1)
  let c:=cf s.2 (i+n) / cf q n
  (s.1.set i c,Yl s.2 i (-c) q q.length)
theorem Yj (p q:List Rat) (n m k:Nat):(Jv p q n m k).1.length=m∧(Jv p q n m k).2.length=p.length:=by
 induction k with
 | zero=>exact ⟨List.length_replicate,rfl⟩
 | succ k ih=>rw [Jv];exact ⟨by rw [List.length_set];exact ih.1,by rw [Ye];exact ih.2⟩
theorem Jsq (p:List Rat) (i:Nat) (c:Rat) (x:Rat) (hi:i<p.length) (h0:cf p i=0):ev (p.set i c) x=ev p x+c*x ^ i:=by
 have e:∀ k,cf (p.set i c) k=cf (Xe p (upR i [c])) k:=fun k=>by
  rw [XI _ _ _ _ hi,XV,Jd4];by_cases h:k=i
  · subst h;rw [if_pos rfl,if_pos (Nat.le_refl _),h0,Nat.sub_self,Yd];grind
  · rw [if_neg h];by_cases h1:i≤k
    · rw [if_pos h1,J7 (p:=[c]) (by simp;omega)];grind
    · rw [if_neg h1];grind
 rw [Je5 e,Xj,Jh9];simp [ev];grind
theorem Jef (p q:List Rat) (n m:Nat) (hq:q.length=n+1) (hl:cf q n≠0) (hm:m+n=p.length):∀ k,k≤m→
 (∀ x,ev p x=ev q x*ev (Jv p q n m k).1 x+ev (Jv p q n m k).2 x)∧(∀ j,j<m - k→cf (Jv p q n m k).1 j=0)∧(∀ j,m - k+n≤j→cf (Jv p q n m k).2 j=0):=by
 intro k;induction k with
 | zero=>
  intro _;refine ⟨fun x=>?_,fun j _=>JO _ _,fun j hj=>J7 (by show p.length≤j;omega)⟩;rw [Jv];dsimp only;rw [Jdb (JO m)];grind
 | succ k ih=>
  intro hk;obtain ⟨h1,h2,h3⟩:=ih (by omega);obtain ⟨l1,l2⟩:=Yj p q n m k;rw [Jv];dsimp only;generalize hs:Jv p q n m k=s at *;obtain ⟨i,hi⟩:∃ i,m - (k+1)=i:=⟨_,rfl⟩;rw [hi];obtain ⟨c,hc⟩:∃ c,cf s.2 (i+n) / cf q n=c:=⟨_,rfl⟩;rw [hc];have hin:i+q.length≤s.2.length:=by omega
  have hcq:c*cf q n=cf s.2 (i+n):=by rw [←hc];exact Rat.div_mul_cancel hl
  refine ⟨fun x=>?_,fun j hj=>?_,fun j hj=>?_⟩
  · rw [Jsq _ _ _ _ (by omega) (h2 i (by omega)),Joq _ _ _ _ _ hin,h1 x];grind
  · rw [XI _ _ _ _ (by omega),if_neg (by omega)];exact h2 j (by omega)
  · rw [Ja0 _ _ _ _ _ hin,Jd4,if_pos (by omega)];by_cases h4:j=i+n
    · subst h4;rw [show i+n - i=n from by omega];grind
    · rw [h3 j (by omega),J7 (p:=q) (by omega)];grind
def Xr (p q:List Rat):List Rat:=Ji (Jv p q (q.length - 1) (p.length - (q.length - 1)) (p.length - (q.length - 1))).1
def X8 (p q:List Rat):List Rat:=Ji (Jv p q (q.length - 1) (p.length - (q.length - 1)) (p.length - (q.length - 1))).2
theorem Je8 (p q:List Rat) (hq:Ji q=q) (hq0:q≠[]):(∀ x,ev p x=ev q x*ev (Xr p q) x+ev (X8 p q) x)∧(X8 p q).length<q.length∧Ji (Xr p q)=Xr p q∧Ji (X8 p q)=X8 p q:=by
 have l1:0<q.length:=List.length_pos_iff.2 hq0;refine ⟨fun x=>?_,?_,Yx _,Yx _⟩
 · unfold Xr X8;rw [XA,XA];by_cases h:q.length - 1≤p.length
   · exact (Jef p q (q.length - 1) (p.length - (q.length - 1)) (by omega) (J1 hq hq0) (by omega) _ (Nat.le_refl _)).1 x
   · rw [show p.length - (q.length - 1)=0 from by omega,Jv];dsimp only;rw [Jdb (JO 0)];grind
 · unfold X8;refine Nat.lt_of_le_of_lt (XJ (n:=q.length - 1) fun j hj=>?_) (by omega);by_cases h:q.length - 1≤p.length
   · exact (Jef p q (q.length - 1) (p.length - (q.length - 1)) (by omega) (J1 hq hq0) (by omega) _ (Nat.le_refl _)).2.2 j (by omega)
   · rw [show p.length - (q.length - 1)=0 from by omega,Jv];exact J7 (by dsimp only;omega)
def XK (p q:List Rat):List Rat:=Ji (Xe p q)
def Jia (p q:List Rat):List Rat:=Ji (Xe p (Yz (-1) q))
def JS (p q:List Rat):List Rat:=Ji (Jay p q)
def JA (p:List Rat):List Rat:=Ji (Jcx p)
theorem Xf (p q:List Rat):Ji (XK p q)=XK p q:=Yx _
theorem Jha (p q:List Rat):Ji (Jia p q)=Jia p q:=Yx _
theorem Jcf (p q:List Rat):Ji (JS p q)=JS p q:=Yx _
theorem Ji7 (p:List Rat):Ji (JA p)=JA p:=Yx _
theorem XW (p q:List Rat) (x:Rat):ev (XK p q) x=ev p x+ev q x:=by unfold XK;rw [XA,Xj]
theorem Jqx (p q:List Rat) (x:Rat):ev (Jia p q) x=ev p x - ev q x:=by unfold Jia;rw [XA,Xj,YY];grind
theorem Xk (p q:List Rat) (x:Rat):ev (JS p q) x=ev p x*ev q x:=by unfold JS;rw [XA,Jh7]
theorem Jd5 (p:List Rat) (x:Rat):ev (JA p) x=dv p x:=by unfold JA;rw [XA,Jm7]
theorem Jcg (p q:List Rat) (i:Nat):cf (XK p q) i=cf p i+cf q i:=by unfold XK;rw [JY,XV]
theorem Jmc (p q:List Rat) (i:Nat):cf (Jia p q) i=cf p i - cf q i:=by unfold Jia;rw [JY,XV,XF];grind
theorem Ji8 (p q:List Rat):(Xe p q).length=max p.length q.length:=by
 induction p generalizing q with
 | nil=>rw [Xe];simp
 | cons c t ih=>
  cases q with
  | nil=>rw [Jgu];simp
  | cons d s=>rw [Xe,List.length_cons,ih,List.length_cons,List.length_cons];omega
theorem Jbq (p q:List Rat):(XK p q).length≤max p.length q.length:=by
 have:=JZ (Xe p q);rw [Ji8] at this;exact this
theorem Jmd {p q:List Rat} (hp:Ji p=p) (hq:Ji q=q) (h:∀ x,ev p x=ev q x):p=q:=by rw [←hp,←hq];exact Je6 h
theorem Jch (p q:List Rat):JA (JS p q)=XK (JS (JA p) q) (JS p (JA q)):=by
 refine Jmd (Ji7 _) (Xf _ _) fun x=>?_;rw [Jd5,XW,Xk,Xk,Jd5,Jd5,←Jqw];exact Jsp (fun i=>by unfold JS;rw [JY]) x
def J8 (a:Rat):List Rat:=[a,1]
def JX (a:Rat):List Rat→List Rat
 | []=>[]
 | c::t=>XK (JS (JX a t) (J8 a)) (Ji [c])
theorem Je9 (a:Rat):Ji (J8 a)=J8 a:=Jax (Or.inr (by show cf [a,1] 1≠0;rw [JI,Yd];decide))
theorem Jhb (a:Rat) (p:List Rat):Ji (JX a p)=JX a p:=by
 cases p with
 | nil=>rfl
 | cons c t=>exact Xf _ _
theorem Jev (a:Rat) (p:List Rat) (x:Rat):ev (JX a p) x=ev p (x+a):=by
 induction p with
 | nil=>rfl
 | cons c t ih=>
  rw [JX,XW,Xk,XA,ih];simp only [J8,ev];grind
theorem Ji9 (a:Rat) (p:List Rat) (hp:Ji p=p):JX (-a) (JX a p)=p:=
 Jmd (Jhb _ _) hp fun x=>by rw [Jev,Jev];congr 1;grind
theorem Jeg (a:Rat) (p:List Rat) (hp:Ji p=p):(JX a p).length=p.length:=by
 induction p with
 | nil=>rfl
 | cons c t ih=>
  by_cases ht:t=[]
  · subst ht;have e:JX a [c]=Ji [c]:=by
     rw [JX,JX];refine Jmd (Xf _ _) (Yx _) fun x=>?_;rw [XW,Xk,show ev [] x=0 from rfl];grind
    rw [e,hp]
  · have h1:=J1 hp (by simp);have e1:(c::t).length - 1=(t.length - 1)+1:=by
     have:0<t.length:=List.length_pos_iff.2 ht;rw [List.length_cons];omega
    rw [e1,JI] at h1;have ht2:Ji t=t:=Jax (Or.inr h1);have ih:=ih ht2;have lt:0<t.length:=List.length_pos_iff.2 ht;have m0:JX a t≠[]:=fun h=>by rw [h] at ih;simp at ih;omega
    have h2:=Jaf (Jhb a t) (Je9 a) m0 (by unfold J8;simp);have h3:(JS (JX a t) (J8 a)).length=t.length+1:=by unfold JS;rw [h2,ih];rfl
    have h4:=J1 (Jcf (JX a t) (J8 a)) (fun h=>by rw [h] at h3;simp at h3);rw [h3] at h4;have h5:cf (JX a (c::t)) t.length≠0:=by
     rw [JX,Jcg,JY,J7 (p:=[c]) (by simp;omega)];simp only [Nat.add_sub_cancel] at h4;grind
    have h6:(JX a (c::t)).length≤t.length+1:=by
     rw [JX];have:=Jbq (JS (JX a t) (J8 a)) (Ji [c]);have h7:=JZ [c];simp at h7;omega
    rcases Nat.lt_or_ge t.length (JX a (c::t)).length with h8 | h8
    · rw [List.length_cons];omega
    · exact absurd (J7 h8) h5
theorem Jk2 (p q:List Rat) (hp:Ji p=p) (hq:Ji q=q) (hq0:q≠[]):XK (JS (Xr p q) q) (X8 p q)=p:=
 Jmd (Xf _ _) hp fun x=>by rw [XW,Xk,(Je8 p q hq hq0).1 x];grind
end Go.Proofs.YtcahejkcdcjjgaaGreatDoor
