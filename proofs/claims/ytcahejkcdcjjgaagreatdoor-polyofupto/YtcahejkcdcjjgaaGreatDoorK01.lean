set_option maxRecDepth 100000
set_option maxHeartbeats 16000000
namespace Go.Proofs.YtcahejkcdcjjgaaGreatDoor
def cf (p:List Rat) (i:Nat):Rat:=p[i]?.getD 0
theorem Jb1 (i:Nat):cf [] i=0:=by simp [cf]
theorem Jcd (c:Rat) (t:List Rat):cf (c::t) 0=c:=by simp [cf]
theorem Yx (c:Rat) (t:List Rat) (i:Nat):cf (c::t) (i+1)=cf t i:=by simp [cf]
theorem Jea {p:List Rat} {i:Nat} (h:p.length≤i):cf p i=0:=by simp [cf,List.getElem?_eq_none h]
theorem Jse {p:List Rat} {i:Nat} (h:i<p.length):cf p i=p[i]:=by simp [cf,List.getElem?_eq_getElem h]
theorem Jkq (p:List Rat) (c:Rat) (i:Nat):cf (p++[c]) i=if i=p.length then c else cf p i:=by
 unfold cf;by_cases h:i<p.length
 · rw [List.getElem?_append_left h,if_neg (by omega)]
 · rw [List.getElem?_append_right (by omega)];by_cases h2:i=p.length
   · rw [if_pos h2,h2];simp
   · rw [if_neg h2,List.getElem?_eq_none (by simp;omega),List.getElem?_eq_none (by omega)]
theorem Jb2 (p:List Rat) (k:Nat) (c:Rat) (i:Nat) (hk:k<p.length):cf (p.set k c) i=if i=k then c else cf p i:=by
 unfold cf;by_cases h:i=k
 · subst h;rw [if_pos rfl,List.getElem?_set_self hk];rfl
 · rw [if_neg h,List.getElem?_set_ne (fun e=>h e.symm)]
theorem YY (n:Nat) (i:Nat):cf (List.replicate n 0) i=0:=by
 unfold cf;rw [List.getElem?_replicate];split <;> rfl
theorem Jgt (n:Nat) (f:Nat→Rat) (i:Nat):cf ((List.range n).map f) i=if i<n then f i else 0:=by
 unfold cf;rw [List.getElem?_map];by_cases h:i<n
 · rw [List.getElem?_range h,if_pos h];rfl
 · rw [List.getElem?_eq_none (by simp;omega),if_neg h];rfl
theorem Jgu (p:List Rat) (n i:Nat):cf (p.take n) i=if i<n then cf p i else 0:=by
 unfold cf;rw [List.getElem?_take];split <;> rfl
def JG:List Rat→List Rat
 | []=>[]
 | c::t=>match JG t with
  | []=>if c=0 then [] else [c]
  | d::s=>c::d::s
theorem Jdv (p:List Rat) (i:Nat):cf (JG p) i=cf p i:=by
 induction p generalizing i with
 | nil=>rfl
 | cons c t ih=>
  have h0:=ih;rw [JG];split
  · rename_i h;rw [h] at h0;cases i with
    | zero=>split <;> simp_all [cf]
    | succ i=>
     rw [Yx,←h0 i,Jb1];split
     · rfl
     · rw [Yx,Jb1]
  · rename_i d s h;rw [←h];cases i with
    | zero=>rfl
    | succ i=>rw [Yx,Yx,h0]
theorem Jc7 {p:List Rat} (h:∀ i,cf p i=0):JG p=[]:=by
 induction p with
 | nil=>rfl
 | cons c t ih=>
  have h1:=ih (fun i=>by rw [←Yx c t i];exact h (i+1));have h2:c=0:=by rw [←Jcd c t];exact h 0
  rw [JG,h1];show (if c=0 then [] else [c])=[];rw [if_pos h2]
theorem Jeb {p q:List Rat} (h:∀ i,cf p i=cf q i):JG p=JG q:=by
 induction p generalizing q with
 | nil=>rw [Jc7 (p:=q) (fun i=>by rw [←h i,Jb1])];rfl
 | cons c t ih=>
  cases q with
  | nil=>rw [Jc7 (p:=c::t) (fun i=>by rw [h i,Jb1])];rfl
  | cons d s=>
   have h1:c=d:=by have:=h 0;rwa [Jcd,Jcd] at this
   have h2:=ih (q:=s) (fun i=>by have:=h (i+1);rwa [Yx,Yx] at this);rw [JG,JG,h1,h2]
theorem Jln (p:List Rat):JG (JG p)=JG p:=Jeb (Jdv p)
theorem XC (p:List Rat):(JG p).length≤p.length:=by
 induction p with
 | nil=>exact Nat.le_refl _
 | cons c t ih=>
  rw [JG];split
  · split <;> simp
  · rename_i d s h;rw [h] at ih;simp only [List.length_cons] at ih ⊢;omega
theorem Jlo {p:List Rat} (h:JG p=p) (h0:p≠[]):cf p (p.length - 1)≠0:=by
 induction p with
 | nil=>exact absurd rfl h0
 | cons c t ih=>
  rw [JG] at h;split at h
  · rename_i h1;split at h
    · cases h
    · rename_i h2;simp only [List.cons.injEq,true_and] at h;subst h;simpa [cf] using h2
  · rename_i d s h1;simp only [List.cons.injEq,true_and] at h;have h2:JG t=t:=by rw [h1,h]
    have h3:=ih h2 (by rw [←h];simp);have e:(c::t).length - 1=(t.length - 1)+1:=by rw [←h];simp
    rw [e,Yx];exact h3
theorem Jgv {p:List Rat} (h:p=[]∨cf p (p.length - 1)≠0):JG p=p:=by
 induction p with
 | nil=>rfl
 | cons c t ih=>
  rcases h with h | h
  · cases h
  · cases t with
    | nil=>rw [JG];show (if c=0 then [] else [c])=[c];rw [if_neg (by simpa [cf] using h)]
    | cons d s=>
     have e:(c::d::s).length - 1=((d::s).length - 1)+1:=by simp
     rw [e,Yx] at h;rw [JG,ih (Or.inr h)]
theorem Jfy {p:List Rat} {n:Nat} (hn:n≤p.length) (h1:n=0∨cf p (n - 1)≠0) (h2:∀ j,n≤j→cf p j=0):JG p=p.take n:=by
 have e:JG p=JG (p.take n):=Jeb fun i=>by
  rw [Jgu];split
  · rfl
  · exact h2 i (by omega)
 rw [e];refine Jgv ?_;rcases h1 with h1 | h1
 · left;rw [h1];rfl
 · by_cases h0:n=0
   · left;rw [h0];rfl
   · right
     rw [List.length_take,Nat.min_eq_left hn,Jgu,if_pos (by omega)];exact h1
def ev:List Rat→Rat→Rat
 | [],_=>0
 | c::t,x=>c+x*ev t x
def dv:List Rat→Rat→Rat
 | [],_=>0
 | _::t,x=>ev t x+x*dv t x
def Jlp:List Rat→List Rat→List Rat
 | [],q=>q
 | p,[]=>p
 | c::t,d::s=>(c+d)::Jlp t s
def Jjh (a:Rat) (p:List Rat):List Rat:=p.map (fun c=>c*a)
def Jlq:List Rat→List Rat→List Rat
 | [],_=>[]
 | c::t,q=>Jlp (Jjh c q) (0::Jlq t q)
theorem Jpt (p q:List Rat) (i:Nat):cf (Jlp p q) i=cf p i+cf q i:=by
 induction p generalizing q i with
 | nil=>rw [Jlp,Jb1];grind
 | cons c t ih=>
  cases q with
  | nil=>
   rw [Jlp,Jb1]
   · grind
   · intro h;cases h
  | cons d s=>
   rw [Jlp];cases i with
   | zero=>simp [cf]
   | succ i=>rw [Yx,Yx,Yx,ih]
theorem Jlr (a:Rat) (p:List Rat) (i:Nat):cf (Jjh a p) i=cf p i*a:=by
 unfold cf Jjh;rw [List.getElem?_map];cases p[i]? with
 | none=>simp
 | some c=>rfl
def sumN:Nat→(Nat→Rat)→Rat
 | 0,_=>0
 | n+1,f=>sumN n f+f n
theorem Jji {n:Nat} {f g:Nat→Rat} (h:∀ k,k<n→f k=g k):sumN n f=sumN n g:=by
 induction n with
 | zero=>rfl
 | succ n ih=>rw [sumN,sumN,ih (fun k hk=>h k (by omega)),h n (by omega)]
theorem Jls {n:Nat} {f:Nat→Rat} (h:∀ k,k<n→f k=0):sumN n f=0:=by
 induction n with
 | zero=>rfl
 | succ n ih=>rw [sumN,ih (fun k hk=>h k (by omega)),h n (by omega)];grind
theorem Jjj (n:Nat) (f:Nat→Rat):sumN (n+1) f=f 0+sumN n (fun k=>f (k+1)):=by
 induction n with
 | zero=>simp [sumN];grind
 | succ n ih=>rw [sumN,ih,sumN];grind
def conv (p q:List Rat) (n k:Nat):Rat:=sumN n (fun i=>if i≤k then cf p i*cf q (k - i) else 0)
theorem Jkr (p q:List Rat) (k:Nat):cf (Jlq p q) k=conv p q p.length k:=by
 induction p generalizing k with
 | nil=>rfl
 | cons c t ih=>
  rw [Jlq,Jpt,Jlr,conv,List.length_cons,Jjj];rw [if_pos (Nat.zero_le _),Jcd,Nat.sub_zero];have e:cf (0::Jlq t q) k=sumN t.length (fun i=>if i+1≤k then cf (c::t) (i+1)*cf q (k - (i+1)) else 0):=by
   cases k with
   | zero=>
    rw [Jcd,Jls];intro i hi;rw [if_neg (by omega)]
   | succ k=>
    rw [Yx,ih,conv];refine Jji fun i hi=>?_;by_cases h:i≤k
    · rw [if_pos h,if_pos (by omega),Yx,show k+1 - (i+1)=k - i from by omega]
    · rw [if_neg h,if_neg (by omega)]
  rw [e];grind
def upR (i:Nat) (q:List Rat):List Rat:=List.replicate i 0++q
theorem Jnf (i:Nat) (q:List Rat) (k:Nat):cf (upR i q) k=if i≤k then cf q (k - i) else 0:=by
 unfold cf upR;by_cases h:k<i
 · rw [List.getElem?_append_left (by simpa using h),if_neg (by omega),List.getElem?_replicate];split <;> rfl
 · rw [List.getElem?_append_right (by simp;omega),if_pos (by omega)];simp
def Xa (z:List Rat) (i:Nat) (a:Rat) (q:List Rat):Nat→List Rat
 | 0=>z
 | j+1=>(Xa z i a q j).set (i+j) (cf (Xa z i a q j) (i+j)+a*cf q j)
theorem Yp (z:List Rat) (i:Nat) (a:Rat) (q:List Rat) (j:Nat):(Xa z i a q j).length=z.length:=by
 induction j with
 | zero=>rfl
 | succ j ih=>rw [Xa,List.length_set,ih]
theorem Jng (z:List Rat) (i:Nat) (a:Rat) (q:List Rat) (j k:Nat) (h:i+j≤z.length):cf (Xa z i a q j) k=cf z k+(if i≤k∧k<i+j then a*cf q (k - i) else 0):=by
 induction j with
 | zero=>rw [Xa,if_neg (by omega)];grind
 | succ j ih=>
  have ih:=ih (by omega);rw [Xa,Jb2 _ _ _ _ (by rw [Yp];omega)];by_cases h1:k=i+j
  · subst h1;rw [if_pos rfl,ih,if_neg (by omega),if_pos (by omega),show i+j - i=j from by omega];grind
  · rw [if_neg h1,ih];by_cases h2:i≤k∧k<i+j
    · rw [if_pos h2,if_pos (by omega)]
    · rw [if_neg h2,if_neg (by omega)]
theorem Jgw (z:List Rat) (i:Nat) (a:Rat) (q:List Rat) (k:Nat) (h:i+q.length≤z.length):cf (Xa z i a q q.length) k=cf z k+a*cf (upR i q) k:=by
 rw [Jng _ _ _ _ _ _ h,Jnf];by_cases h1:i≤k
 · by_cases h2:k<i+q.length
   · rw [if_pos ⟨h1,h2⟩,if_pos h1]
   · rw [if_neg (by omega),if_pos h1,Jea (p:=q) (by omega)];grind
 · rw [if_neg (by omega),if_neg h1];grind
def Xb (p q:List Rat) (n:Nat):Nat→List Rat
 | 0=>List.replicate n 0
 | i+1=>Xa (Xb p q n i) i (cf p i) q q.length
theorem Jae (p q:List Rat) (n i:Nat):(Xb p q n i).length=n:=by
 induction i with
 | zero=>rw [Xb,List.length_replicate]
 | succ i ih=>rw [Xb,Yp,ih]
theorem Jho (p q:List Rat) (n i k:Nat) (h:i=0∨i+q.length≤n+1):cf (Xb p q n i) k=conv p q i k:=by
 induction i with
 | zero=>rw [Xb,YY];rfl
 | succ i ih=>
  rw [Xb,Jgw _ _ _ _ _ (by rw [Jae];omega),ih (by omega),Jnf];show _=conv p q i k+_
  dsimp only;split <;> grind
def Jnh (p q:List Rat):List Rat:=JG (Jlq p q)
end Go.Proofs.YtcahejkcdcjjgaaGreatDoor
