set_option maxRecDepth 100000
set_option maxHeartbeats 16000000
namespace Go.Proofs.YtcahejkcdcjjgaaGreatDoor
def cf (p:List Rat) (i:Nat):Rat:=p[i]?.getD 0
theorem Jas (i:Nat):cf [] i=0:=by simp [cf]
theorem Jat (c:Rat) (t:List Rat):cf (c::t) 0=c:=by simp [cf]
theorem YO (c:Rat) (t:List Rat) (i:Nat):cf (c::t) (i+1)=cf t i:=by simp [cf]
theorem XG {p:List Rat} {i:Nat} (h:p.length≤i):cf p i=0:=by simp [cf,List.getElem?_eq_none h]
theorem Jsi {p:List Rat} {i:Nat} (h:i<p.length):cf p i=p[i]:=by simp [cf,List.getElem?_eq_getElem h]
theorem Jhd (p:List Rat) (c:Rat) (i:Nat):cf (p++[c]) i=if i=p.length then c else cf p i:=by
 unfold cf;by_cases h:i<p.length
 · rw [List.getElem?_append_left h,if_neg (by omega)]
 · rw [List.getElem?_append_right (by omega)];by_cases h2:i=p.length
   · rw [if_pos h2,h2];simp
   · rw [if_neg h2,List.getElem?_eq_none (by simp;omega),List.getElem?_eq_none (by omega)]
theorem Jau (p:List Rat) (k:Nat) (c:Rat) (i:Nat) (hk:k<p.length):cf (p.set k c) i=if i=k then c else cf p i:=by
 unfold cf;by_cases h:i=k
 · subst h;rw [if_pos rfl,List.getElem?_set_self hk];rfl
 · rw [if_neg h,List.getElem?_set_ne (fun e=>h e.symm)]
theorem Yw (n:Nat) (i:Nat):cf (List.replicate n 0) i=0:=by
 unfold cf;rw [List.getElem?_replicate];split <;> rfl
theorem Jhe (n:Nat) (f:Nat→Rat) (i:Nat):cf ((List.range n).map f) i=if i<n then f i else 0:=by
 unfold cf;rw [List.getElem?_map];by_cases h:i<n
 · rw [List.getElem?_range h,if_pos h];rfl
 · rw [List.getElem?_eq_none (by simp;omega),if_neg h];rfl
theorem Jhf (p:List Rat) (n i:Nat):cf (p.take n) i=if i<n then cf p i else 0:=by
 unfold cf;rw [List.getElem?_take];split <;> rfl
def Jr:List Rat→List Rat
 | []=>[]
 | c::t=>match Jr t with
  | []=>if c=0 then [] else [c]
  | d::s=>c::d::s
theorem YV (p:List Rat) (i:Nat):cf (Jr p) i=cf p i:=by
 induction p generalizing i with
 | nil=>rfl
 | cons c t ih=>
  have h0:=ih;rw [Jr];split
  · rename_i h;rw [h] at h0;cases i with
    | zero=>split <;> simp_all [cf]
    | succ i=>
     rw [YO,←h0 i,Jas];split
     · rfl
     · rw [YO,Jas]
  · rename_i d s h;rw [←h];cases i with
    | zero=>rfl
    | succ i=>rw [YO,YO,h0]
theorem Jb0 {p:List Rat} (h:∀ i,cf p i=0):Jr p=[]:=by
 induction p with
 | nil=>rfl
 | cons c t ih=>
  have h1:=ih (fun i=>by rw [←YO c t i];exact h (i+1));have h2:c=0:=by rw [←Jat c t];exact h 0
  rw [Jr,h1];show (if c=0 then [] else [c])=[];rw [if_pos h2]
theorem Yy {p q:List Rat} (h:∀ i,cf p i=cf q i):Jr p=Jr q:=by
 induction p generalizing q with
 | nil=>rw [Jb0 (p:=q) (fun i=>by rw [←h i,Jas])];rfl
 | cons c t ih=>
  cases q with
  | nil=>rw [Jb0 (p:=c::t) (fun i=>by rw [h i,Jas])];rfl
  | cons d s=>
   have h1:c=d:=by have:=h 0;rwa [Jat,Jat] at this
   have h2:=ih (q:=s) (fun i=>by have:=h (i+1);rwa [YO,YO] at this);rw [Jr,Jr,h1,h2]
theorem Jl3 (p:List Rat):Jr (Jr p)=Jr p:=Yy (YV p)
theorem JE (p:List Rat):(Jr p).length≤p.length:=by
 induction p with
 | nil=>exact Nat.le_refl _
 | cons c t ih=>
  rw [Jr];split
  · split <;> simp
  · rename_i d s h;rw [h] at ih;simp only [List.length_cons] at ih ⊢;omega
theorem Jhg {p:List Rat} (h:p=[]∨cf p (p.length - 1)≠0):Jr p=p:=by
 induction p with
 | nil=>rfl
 | cons c t ih=>
  rcases h with h | h
  · cases h
  · cases t with
    | nil=>rw [Jr];show (if c=0 then [] else [c])=[c];rw [if_neg (by simpa [cf] using h)]
    | cons d s=>
     have e:(c::d::s).length - 1=((d::s).length - 1)+1:=by simp
     rw [e,YO] at h;rw [Jr,ih (Or.inr h)]
theorem Jgg {p:List Rat} {n:Nat} (hn:n≤p.length) (h1:n=0∨cf p (n - 1)≠0) (h2:∀ j,n≤j→cf p j=0):Jr p=p.take n:=by
 have e:Jr p=Jr (p.take n):=Yy fun i=>by
  rw [Jhf];split
  · rfl
  · exact h2 i (by omega)
 rw [e];refine Jhg ?_;rcases h1 with h1 | h1
 · left;rw [h1];rfl
 · by_cases h0:n=0
   · left;rw [h0];rfl
   · right
     rw [List.length_take,Nat.min_eq_left hn,Jhf,if_pos (by omega)];exact h1
def ev:List Rat→Rat→Rat
 | [],_=>0
 | c::t,x=>c+x*ev t x
def dv:List Rat→Rat→Rat
 | [],_=>0
 | _::t,x=>ev t x+x*dv t x
def Jid:List Rat→List Rat→List Rat
 | [],q=>q
 | p,[]=>p
 | c::t,d::s=>(c+d)::Jid t s
def X5 (a:Rat) (p:List Rat):List Rat:=p.map (fun c=>c*a)
def Jl4:List Rat→List Rat→List Rat
 | [],_=>[]
 | c::t,q=>Jid (X5 c q) (0::Jl4 t q)
theorem Jb1 (p q:List Rat) (i:Nat):cf (Jid p q) i=cf p i+cf q i:=by
 induction p generalizing q i with
 | nil=>rw [Jid,Jas];grind
 | cons c t ih=>
  cases q with
  | nil=>
   rw [Jid,Jas]
   · grind
   · intro h;cases h
  | cons d s=>
   rw [Jid];cases i with
   | zero=>simp [cf]
   | succ i=>rw [YO,YO,YO,ih]
theorem Jb2 (a:Rat) (p:List Rat) (i:Nat):cf (X5 a p) i=cf p i*a:=by
 unfold cf X5;rw [List.getElem?_map];cases p[i]? with
 | none=>simp
 | some c=>rfl
def sumN:Nat→(Nat→Rat)→Rat
 | 0,_=>0
 | n+1,f=>sumN n f+f n
theorem Jj4 {n:Nat} {f g:Nat→Rat} (h:∀ k,k<n→f k=g k):sumN n f=sumN n g:=by
 induction n with
 | zero=>rfl
 | succ n ih=>rw [sumN,sumN,ih (fun k hk=>h k (by omega)),h n (by omega)]
theorem Jl5 {n:Nat} {f:Nat→Rat} (h:∀ k,k<n→f k=0):sumN n f=0:=by
 induction n with
 | zero=>rfl
 | succ n ih=>rw [sumN,ih (fun k hk=>h k (by omega)),h n (by omega)];grind
theorem Jj5 (n:Nat) (f:Nat→Rat):sumN (n+1) f=f 0+sumN n (fun k=>f (k+1)):=by
 induction n with
 | zero=>simp [sumN];grind
 | succ n ih=>rw [sumN,ih,sumN];grind
def conv (p q:List Rat) (n k:Nat):Rat:=sumN n (fun i=>if i≤k then cf p i*cf q (k - i) else 0)
theorem Jk9 (p q:List Rat) (k:Nat):cf (Jl4 p q) k=conv p q p.length k:=by
 induction p generalizing k with
 | nil=>rfl
 | cons c t ih=>
  rw [Jl4,Jb1,Jb2,conv,List.length_cons,Jj5];rw [if_pos (Nat.zero_le _),Jat,Nat.sub_zero];have e:cf (0::Jl4 t q) k=sumN t.length (fun i=>if i+1≤k then cf (c::t) (i+1)*cf q (k - (i+1)) else 0):=by
   cases k with
   | zero=>
    rw [Jat,Jl5];intro i hi;rw [if_neg (by omega)]
   | succ k=>
    rw [YO,ih,conv];refine Jj4 fun i hi=>?_;by_cases h:i≤k
    · rw [if_pos h,if_pos (by omega),YO,show k+1 - (i+1)=k - i from by omega]
    · rw [if_neg h,if_neg (by omega)]
  rw [e];grind
def upR (i:Nat) (q:List Rat):List Rat:=List.replicate i 0++q
theorem Jhh (i:Nat) (q:List Rat) (k:Nat):cf (upR i q) k=if i≤k then cf q (k - i) else 0:=by
 unfold cf upR;by_cases h:k<i
 · rw [List.getElem?_append_left (by simpa using h),if_neg (by omega),List.getElem?_replicate];split <;> rfl
 · rw [List.getElem?_append_right (by simp;omega),if_pos (by omega)];simp
def Xi (z:List Rat) (i:Nat) (a:Rat) (q:List Rat):Nat→List Rat
 | 0=>z
 | j+1=>(Xi z i a q j).set (i+j) (cf (Xi z i a q j) (i+j)+a*cf q j)
theorem Yx (z:List Rat) (i:Nat) (a:Rat) (q:List Rat) (j:Nat):(Xi z i a q j).length=z.length:=by
 induction j with
 | zero=>rfl
 | succ j ih=>rw [Xi,List.length_set,ih]
theorem Jnr (z:List Rat) (i:Nat) (a:Rat) (q:List Rat) (j k:Nat) (h:i+j≤z.length):cf (Xi z i a q j) k=cf z k+(if i≤k∧k<i+j then a*cf q (k - i) else 0):=by
 induction j with
 | zero=>rw [Xi,if_neg (by omega)];grind
 | succ j ih=>
  have ih:=ih (by omega);rw [Xi,Jau _ _ _ _ (by rw [Yx];omega)];by_cases h1:k=i+j
  · subst h1;rw [if_pos rfl,ih,if_neg (by omega),if_pos (by omega),show i+j - i=j from by omega];grind
  · rw [if_neg h1,ih];by_cases h2:i≤k∧k<i+j
    · rw [if_pos h2,if_pos (by omega)]
    · rw [if_neg h2,if_neg (by omega)]
theorem Jhi (z:List Rat) (i:Nat) (a:Rat) (q:List Rat) (k:Nat) (h:i+q.length≤z.length):cf (Xi z i a q q.length) k=cf z k+a*cf (upR i q) k:=by
 rw [Jnr _ _ _ _ _ _ h,Jhh];by_cases h1:i≤k
 · by_cases h2:k<i+q.length
   · rw [if_pos ⟨h1,h2⟩,if_pos h1]
   · rw [if_neg (by omega),if_pos h1,XG (p:=q) (by omega)];grind
 · rw [if_neg (by omega),if_neg h1];grind
def Xj (p q:List Rat) (n:Nat):Nat→List Rat
 | 0=>List.replicate n 0
 | i+1=>Xi (Xj p q n i) i (cf p i) q q.length
theorem Jav (p q:List Rat) (n i:Nat):(Xj p q n i).length=n:=by
 induction i with
 | zero=>rw [Xj,List.length_replicate]
 | succ i ih=>rw [Xj,Yx,ih]
theorem Jie (p q:List Rat) (n i k:Nat) (h:i=0∨i+q.length≤n+1):cf (Xj p q n i) k=conv p q i k:=by
 induction i with
 | zero=>rw [Xj,Yw];rfl
 | succ i ih=>
  rw [Xj,Jhi _ _ _ _ _ (by rw [Jav];omega),ih (by omega),Jhh];show _=conv p q i k+_
  dsimp only;split <;> grind
def Jns (p q:List Rat):List Rat:=Jr (Jid p q)
def Jqb (p q:List Rat):List Rat:=Jr (Jid p (X5 (-1) q))
def Jnt (p q:List Rat):List Rat:=Jr (Jl4 p q)
end Go.Proofs.YtcahejkcdcjjgaaGreatDoor
