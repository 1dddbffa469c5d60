import Init
import Derived.Test.YtcahejkcdcjjgaaGreatDoorK01
set_option maxRecDepth 100000
set_option maxHeartbeats 16000000
namespace Go.Proofs.YtcahejkcdcjjgaaGreatDoor
def val (B:Nat):List Nat→Nat
 | []=>0
 | d::ds=>d+B*val B ds
def Dig (B:Nat) (ds:List Nat):Prop:=∀ d∈ds,d<B
def Jd (B n:Nat):List Nat:=
 if _h:n=0∨B<2 then [] else n % B::Jd B (n / B)
termination_by n
decreasing_by
 have h1:n≠0:=fun e=>_h (Or.inl e);have _h2:¬ B<2:=fun e=>_h (Or.inr e);exact Nat.div_lt_self (by omega) (by omega)
def Jy:List Nat→List Nat
 | []=>[]
 | d::ds=>match Jy ds with
  | []=>if d=0 then [] else [d]
  | e::es=>d::e::es
theorem Dig.nil (B:Nat):Dig B []:=fun _ h=>by cases h
theorem Dig.cons {B d:Nat} {ds:List Nat} (h:d<B) (k:Dig B ds):Dig B (d::ds):=fun x hx=>by
 rcases List.mem_cons.1 hx with rfl | hx
 · exact h
 · exact k x hx
theorem Dig.head {B d:Nat} {ds:List Nat} (h:Dig B (d::ds)):d<B:=h d (List.mem_cons_self ..)
theorem Dig.tail {B d:Nat} {ds:List Nat} (h:Dig B (d::ds)):Dig B ds:=fun x hx=>h x (List.mem_cons_of_mem _ hx)
theorem Dig.append {B:Nat} {a b:List Nat} (h:Dig B a) (k:Dig B b):Dig B (a++b):=fun x hx=>by
 rcases List.mem_append.1 hx with hx | hx
 · exact h x hx
 · exact k x hx
theorem Dig.left {B:Nat} {a b:List Nat} (h:Dig B (a++b)):Dig B a:=fun x hx=>h x (List.mem_append.2 (Or.inl hx))
theorem Dig.right {B:Nat} {a b:List Nat} (h:Dig B (a++b)):Dig B b:=fun x hx=>h x (List.mem_append.2 (Or.inr hx))
theorem Jdc (B:Nat):val B []=0:=rfl
theorem JT (B d:Nat) (ds:List Nat):val B (d::ds)=d+B*val B ds:=rfl
theorem val_append (B:Nat):∀ (a b:List Nat),val B (a++b)=val B a+B ^ a.length*val B b
 | [],b=>by simp [val]
 | d::a,b=>by
  simp only [List.cons_append,JT,val_append B a b,List.length_cons,Nat.pow_succ];rw [Nat.mul_add,Nat.mul_comm (B ^ a.length) B,Nat.mul_assoc,Nat.add_assoc]
theorem J2 {B:Nat}:∀ {ds:List Nat},Dig B ds→val B ds<B ^ ds.length
 | [],_=>by simp [val]
 | d::ds,h=>by
  have h1:=h.head;have h2:=J2 h.tail;simp only [JT,List.length_cons,Nat.pow_succ];have h3:B*val B ds+B≤B*B ^ ds.length:=by
   rw [←Nat.mul_succ];exact Nat.mul_le_mul_left _ h2
  rw [Nat.mul_comm (B ^ ds.length) B];omega
theorem Jz (B:Nat):Jd B 0=[]:=by rw [Jd];simp
theorem YZ {B n:Nat} (hB:2≤B) (hn:n≠0):Jd B n=n % B::Jd B (n / B):=by
 rw [Jd];rw [dif_neg];intro h;rcases h with h | h
 · exact hn h
 · omega
theorem Jn {B:Nat} (hB:2≤B) (n:Nat):val B (Jd B n)=n:=by
 induction n using Nat.strongRecOn with
 | ind n ih=>
  by_cases hn:n=0
  · subst hn;rw [Jz];rfl
  · rw [YZ hB hn,JT,ih _ (Nat.div_lt_self (by omega) (by omega))];exact Nat.mod_add_div n B
theorem Jq {B:Nat} (hB:2≤B) (n:Nat):Dig B (Jd B n):=by
 induction n using Nat.strongRecOn with
 | ind n ih=>
  by_cases hn:n=0
  · subst hn;rw [Jz];exact Dig.nil B
  · rw [YZ hB hn];exact Dig.cons (Nat.mod_lt _ (by omega)) (ih _ (Nat.div_lt_self (by omega) (by omega)))
theorem JC {B:Nat} (hB:2≤B) {n:Nat}:Jd B n=[]↔n=0:=by
 constructor
 · intro h;have:=Jn hB n;rw [h] at this;exact this.symm
 · intro h;rw [h,Jz]
theorem J0 {ds:List Nat} {d:Nat} (h:Jy ds=[]):Jy (d::ds)=if d=0 then [] else [d]:=by
 simp only [Jy,h]
theorem Yg {ds:List Nat} {d:Nat} (h:Jy ds≠[]):Jy (d::ds)=d::Jy ds:=by
 simp only [Jy];cases h':Jy ds with
 | nil=>exact absurd h' h
 | cons e es=>rfl
theorem Jci (B:Nat):∀ (ds:List Nat),val B (Jy ds)=val B ds
 | []=>rfl
 | d::ds=>by
  by_cases h:Jy ds=[]
  · have:=Jci B ds;rw [h] at this;rw [J0 h,JT,←this];by_cases hd:d=0
    · simp [hd,val]
    · simp [hd,val]
  · rw [Yg h,JT,JT,Jci B ds]
theorem JQ {B:Nat} (hB:2≤B):∀ {ds:List Nat},Dig B ds→Jd B (val B ds)=Jy ds
 | [],_=>by rw [Jdc,Jz];rfl
 | d::ds,h=>by
  have h1:=h.head;have ih:=JQ hB h.tail;rw [JT];by_cases hz:d+B*val B ds=0
  · have hd:d=0:=by omega
    have hv:val B ds=0:=by
     rcases Nat.eq_zero_or_pos (val B ds) with h0 | h0
     · exact h0
     · have:0<B*val B ds:=Nat.mul_pos (by omega) h0;omega
    rw [hv,Jz] at ih;rw [hz,Jz,J0 ih.symm,if_pos hd]
  · rw [YZ hB hz];have e1:(d+B*val B ds) % B=d:=by rw [Nat.add_mul_mod_self_left];exact Nat.mod_eq_of_lt h1
    have e2:(d+B*val B ds) / B=val B ds:=by
     rw [Nat.add_mul_div_left _ _ (by omega),Nat.div_eq_of_lt h1,Nat.zero_add]
    rw [e1,e2,ih];by_cases ht:Jy ds=[]
    · rw [J0 ht,ht];have hv:val B ds=0:=by rw [←Jci B ds,ht];rfl
      rw [if_neg];intro hd;apply hz;rw [hd,hv];simp
    · rw [Yg ht]
def Top (ds:List Nat):Prop:=Jy ds=ds
theorem Y0 {B:Nat} (hB:2≤B) (n:Nat):Top (Jd B n):=by
 have h:=JQ hB (Jq hB n);rw [Jn hB] at h;exact h.symm
theorem Yy {B:Nat} (hB:2≤B) {ds:List Nat} (h:Dig B ds) (ht:Top ds):Jd B (val B ds)=ds:=(JQ hB h).trans ht
theorem X9:∀ (ds:List Nat) {d:Nat},d≠0→Jy (ds++[d])=ds++[d]
 | [],d,h=>by simp [Jy,h]
 | e::ds,d,h=>by
  have ih:=X9 ds h;rw [List.cons_append,Yg (by rw [ih];simp),ih]
theorem YR:∀ (ds:List Nat),Jy (ds++[0])=Jy ds
 | []=>by simp [Jy]
 | e::ds=>by
  have ih:=YR ds;by_cases h:Jy ds=[]
  · rw [List.cons_append,J0 (by rw [ih];exact h),J0 h]
  · rw [List.cons_append,Yg (by rw [ih];exact h),Yg h,ih]
theorem Jfa (ds:List Nat) (k:Nat) (hk:k≤ds.length) (h0:∀ j,k≤j→j<ds.length→ds[j]?=some 0):Jy (ds.take k)=Jy ds:=by
 obtain ⟨m,hm⟩:∃ m,ds.length=k+m:=⟨ds.length - k,by omega⟩;induction m generalizing ds with
 | zero=>rw [List.take_of_length_le (by omega)]
 | succ m ih=>
  have hne:ds≠[]:=by intro e;rw [e] at hm;simp at hm
  have hl:ds=ds.take (k+m)++[0]:=by
   apply List.ext_getElem?;intro i;by_cases hi:i<k+m
   · rw [List.getElem?_append_left (by rw [List.length_take];omega),List.getElem?_take_of_lt hi]
   · by_cases hi2:i=k+m
     · subst hi2;rw [List.getElem?_append_right (by rw [List.length_take];omega),h0 _ (by omega) (by omega)];simp [List.length_take,hm]
     · rw [List.getElem?_eq_none (by omega),List.getElem?_eq_none];simp [List.length_take];omega
  have hl2:(ds.take (k+m)).length=k+m:=by rw [List.length_take];omega
  have:=ih (ds.take (k+m)) (by omega) (by
   intro j h1 h2;rw [List.getElem?_take_of_lt (by omega)];exact h0 j h1 (by omega)) hl2
  rw [List.take_take,Nat.min_eq_left (by omega)] at this;rw [this];conv=>rhs;rw [hl]
  rw [YR]
theorem Jor (ds:List Nat) (k:Nat) (hk:k<ds.length) (hne:ds[k]?≠some 0) (h0:∀ j,k<j→j<ds.length→ds[j]?=some 0):Jy ds=ds.take (k+1):=by
 rw [←Jfa ds (k+1) (by omega) (fun j h1 h2=>h0 j (by omega) h2)];rw [List.take_succ_eq_append_getElem hk];refine X9 _ ?_;intro e;apply hne;rw [List.getElem?_eq_getElem hk,e]
theorem Jk3 (ds:List Nat) (h0:∀ j,j<ds.length→ds[j]?=some 0):Jy ds=[]:=by
 have:=Jfa ds 0 (by omega) (fun j _ h=>h0 j h);rw [←this];simp [Jy]
theorem Jhc {B:Nat}:∀ {ds:List Nat},Dig B ds→Dig B (Jy ds)
 | [],h=>h
 | d::ds,h=>by
  by_cases ht:Jy ds=[]
  · rw [J0 ht];split
    · exact Dig.nil B
    · exact Dig.cons h.head (Dig.nil B)
  · rw [Yg ht];exact Dig.cons h.head (Jhc h.tail)
theorem Y3:∀ (ds:List Nat),(Jy ds).length≤ds.length
 | []=>by simp [Jy]
 | d::ds=>by
  have:=Y3 ds;by_cases ht:Jy ds=[]
  · rw [J0 ht];split <;> simp
  · rw [Yg ht];simp;omega
theorem JN {B:Nat} (hB:2≤B) {n k:Nat} (h:n<B ^ k):(Jd B n).length≤k:=by
 induction k generalizing n with
 | zero=>
  have:n=0:=by simp at h;exact h
  rw [this,Jz];simp
 | succ k ih=>
  by_cases hn:n=0
  · rw [hn,Jz];simp
  · rw [YZ hB hn,List.length_cons];have:n / B<B ^ k:=by
     apply Nat.div_lt_of_lt_mul;rw [Nat.mul_comm,←Nat.pow_succ];exact h
    have:=ih this;omega
theorem Jbk {B:Nat} (hB:2≤B) {n k:Nat} (h:(Jd B n).length=k+1):B ^ k≤n:=by
 rcases Nat.lt_or_ge n (B ^ k) with h1 | h1
 · have:=JN hB h1;omega
 · exact h1
theorem YS {B:Nat} (hB:2≤B) {m n:Nat} (h:(Jd B m).length<(Jd B n).length):m<n:=by
 have h1:m<B ^ (Jd B m).length:=by
  have:=J2 (Jq hB m);rwa [Jn hB] at this
 have h2:B ^ ((Jd B n).length - 1)≤n:=Jbk hB (by omega);have h3:B ^ (Jd B m).length≤B ^ ((Jd B n).length - 1):=Nat.pow_le_pow_right (by omega) (by omega);omega
def Y4 (m n:Nat):Int:=if m<n then -1 else if n<m then 1 else 0
theorem Jhd (m:Nat):Y4 m m=0:=by simp [Y4]
theorem Ja2 {m n:Nat} (h:m<n):Y4 m n=-1:=by simp [Y4,h]
theorem Jdd {m n:Nat} (h:n<m):Y4 m n=1:=by
 have:¬ m<n:=by omega
 simp [Y4,h,this]
theorem Jhe {B:Nat} (ds:List Nat) (k:Nat) (hk:k<ds.length):val B ds=val B (ds.take k)+B ^ k*(ds[k]?.getD 0+B*val B (ds.drop (k+1))):=by
 have h1:ds=ds.take k++(ds[k]?.getD 0::ds.drop (k+1)):=by
  rw [List.getElem?_eq_getElem hk];conv=>lhs;rw [←List.take_append_drop k ds,List.drop_eq_getElem_cons hk]
  rfl
 have h2:(ds.take k).length=k:=by rw [List.length_take];omega
 conv=>lhs;rw [h1]
 rw [val_append,JT,h2]
theorem Dig.take {B:Nat} {ds:List Nat} (h:Dig B ds) (k:Nat):Dig B (ds.take k):=fun x hx=>h x (List.mem_of_mem_take hx)
theorem Dig.drop {B:Nat} {ds:List Nat} (h:Dig B ds) (k:Nat):Dig B (ds.drop k):=fun x hx=>h x (List.mem_of_mem_drop hx)
theorem Dig.get {B:Nat} {ds:List Nat} (h:Dig B ds) {k:Nat} (hk:k<ds.length):ds[k]?.getD 0<B:=by
 rw [List.getElem?_eq_getElem hk];exact h _ (List.getElem_mem hk)
theorem Dig.getD {B:Nat} {ds:List Nat} (h:Dig B ds) (hB:0<B) (k:Nat):ds[k]?.getD 0<B:=by
 rcases Nat.lt_or_ge k ds.length with hk | hk
 · exact h.get hk
 · rw [List.getElem?_eq_none hk];exact hB
theorem Jhf {B:Nat} {a b:List Nat} (ha:Dig B a) (hl:a.length=b.length) (k:Nat) (hk:k<a.length) (hd:a.drop (k+1)=b.drop (k+1)) (h:a[k]?.getD 0<b[k]?.getD 0):val B a<val B b:=by
 rw [Jhe a k hk,Jhe b k (by omega),←hd];have h1:=J2 (ha.take k);have h2:(a.take k).length=k:=by rw [List.length_take];omega
 rw [h2] at h1;have h3:B ^ k*(a[k]?.getD 0+B*val B (a.drop (k+1)))+B ^ k≤B ^ k*(b[k]?.getD 0+B*val B (a.drop (k+1))):=by
  rw [←Nat.mul_succ];exact Nat.mul_le_mul_left _ (by omega)
 omega
theorem Jib {a b:List Nat} (hl:a.length=b.length) (k:Nat) (hk:k<a.length) (hd:a.drop (k+1)=b.drop (k+1)) (h:a[k]?.getD 0=b[k]?.getD 0):a.drop k=b.drop k:=by
 rw [List.drop_eq_getElem_cons hk,List.drop_eq_getElem_cons (by omega:k<b.length),hd];rw [List.getElem?_eq_getElem hk,List.getElem?_eq_getElem (by omega:k<b.length)] at h;exact congrArg (·::_) h
theorem YI {B:Nat} (hB:2≤B) {a b:List Nat} (ha:Dig B a) (hb:Dig B b) (ta:Top a) (tb:Top b) (h:a.length<b.length):val B a<val B b:=by
 apply YS hB;rw [Yy hB ha ta,Yy hB hb tb];exact h
theorem Jl (B:Nat) (ds:List Nat) (k:Nat):val B (ds.take (k+1))=val B (ds.take k)+B ^ k*ds[k]?.getD 0:=by
 rcases Nat.lt_or_ge k ds.length with h | h
 · rw [List.take_succ_eq_append_getElem h,val_append,List.length_take,Nat.min_eq_left (by omega),List.getElem?_eq_getElem h];simp [val]
 · rw [List.take_of_length_le (by omega),List.take_of_length_le h,List.getElem?_eq_none h];simp
theorem Yb (B:Nat) (ds:List Nat) (d:Nat):val B (ds++[d])=val B ds+B ^ ds.length*d:=by
 rw [val_append];simp [val]
theorem Jcy {B:Nat} (hB:2≤B) {ds:List Nat} (h:Dig B ds) (hp:ds=[]∨B ^ (ds.length - 1)≤val B ds):Top ds:=by
 rcases hp with rfl | hp
 · rfl
 · have h1:=Y3 ds;rcases Nat.lt_or_ge (Jy ds).length ds.length with hlt | hge
   · have h2:=J2 (Jhc h);rw [Jci] at h2;have h3:B ^ (Jy ds).length≤B ^ (ds.length - 1):=Nat.pow_le_pow_right (by omega) (by omega);omega
   · have hl:(Jy ds).length=ds.length:=by omega
     clear h1 hge hp h hB;unfold Top;induction ds with
     | nil=>rfl
     | cons d ds ih=>
      by_cases ht:Jy ds=[]
      · rw [J0 ht] at hl ⊢;by_cases hd:d=0
        · rw [if_pos hd] at hl;simp at hl
        · rw [if_neg hd] at hl ⊢;simp at hl;rw [hl]
      · rw [Yg ht] at hl ⊢;rw [ih (by simpa using hl)]
theorem Jos {B:Nat} (acc:List Nat) (c s A:Nat) (h:val B acc+B ^ acc.length*c=A):val B (acc++[(c+s) % B])+B ^ (acc.length+1)*((c+s) / B)=A+B ^ acc.length*s:=by
 rw [Yb,Nat.pow_succ,Nat.mul_assoc,Nat.add_assoc,←Nat.mul_add,Nat.mod_add_div,Nat.mul_add];omega
theorem YD {B:Nat} (hB:2≤B) {n k:Nat} (h:(Jd B n).length=k) (hk:k≠0):B ^ (k - 1)≤n:=Jbk hB (by omega)
theorem Jot {B:Nat} (hB:2≤B) {m n:Nat} {acc:List Nat} (hd:Dig B acc) (hv:val B acc=m+n)
 (hl:acc.length≤max (Jd B m).length (Jd B n).length∨B ^ (acc.length - 1)≤val B acc) (hle:max (Jd B m).length (Jd B n).length≤acc.length):acc=Jd B (m+n):=by
 rw [←hv];refine (Yy hB hd (Jcy hB hd ?_)).symm;by_cases h0:acc.length=0
 · exact Or.inl (List.eq_nil_of_length_eq_zero h0)
 · right
   rcases hl with hl | hl
   · have hm:acc.length=max (Jd B m).length (Jd B n).length:=by omega
     rcases Nat.le_total (Jd B m).length (Jd B n).length with h | h
     · have:=YD hB (n:=n) (k:=acc.length) (by omega) h0;omega
     · have:=YD hB (n:=m) (k:=acc.length) (by omega) h0;omega
   · exact hl
def chr (d:Nat):UInt8:=UInt8.ofNat (48+d)
def txt (ds:List Nat):List UInt8:=(ds.map chr).reverse
def Xt (n:Nat):List UInt8:=if n=0 then [48] else txt (Jd 10 n)
def XB (z:Int):List UInt8:=if z<0 then 45::Xt z.natAbs else Xt z.natAbs
theorem Jou (ds:List Nat) (d:Nat):txt (ds++[d])=chr d::txt ds:=by simp [txt]
theorem Jfb (ds:List Nat):(txt ds).length=ds.length:=by simp [txt]
def Ja3 (ds:List Nat) (i k n:Nat) (D:List Nat):Prop:=
 D.length=4*i+k∧Dig 10 D∧k≤4∧n=ds[i]?.getD 0 / 10 ^ k∧val 10 D+10 ^ (4*i+k)*n=val 10000 (ds.take i)+10000 ^ i*ds[i]?.getD 0∧(i+1<ds.length∨k=0∨10 ^ (k - 1)≤ds[i]?.getD 0)
theorem Jsr (i:Nat):(10:Nat) ^ (4*i)=10000 ^ i:=by rw [Nat.pow_mul]
theorem Ja3.start {ds:List Nat} {i:Nat} {D:List Nat} (hl:D.length=4*i) (hd:Dig 10 D) (hv:val 10 D=val 10000 (ds.take i)):Ja3 ds i 0 (ds[i]?.getD 0) D:=by
 refine ⟨by omega,hd,by omega,by simp,?_,Or.inr (Or.inl rfl)⟩;rw [Nat.add_zero,Jsr,hv]
theorem Ja3.step {ds:List Nat} {i k n:Nat} {D:List Nat} (h:Ja3 ds i k n D) (hk:k<4) (hgo:0<n∨i+1<ds.length):Ja3 ds i (k+1) (n / 10) (D++[n % 10]):=by
 obtain ⟨h1,h2,h3,h4,h5,h6⟩:=h;refine ⟨by simp;omega,h2.append (Dig.cons (Nat.mod_lt _ (by omega)) (Dig.nil _)),by omega,?_,?_,?_⟩
 · rw [h4,Nat.div_div_eq_div_mul,←Nat.pow_succ]
 · rw [Yb,h1,←h5,Nat.add_assoc (4*i) k 1 |>.symm,Nat.pow_succ,Nat.mul_assoc,Nat.add_assoc,←Nat.mul_add,Nat.mod_add_div]
 · rcases hgo with h | h
   · right;right
     rw [Nat.add_sub_cancel];rw [h4] at h;have:=Nat.div_pos_iff.1 h;exact this.2
   · exact Or.inl h
theorem Ja3.next {ds:List Nat} {i n:Nat} {D:List Nat} (h:Ja3 ds i 4 n D) (hd:Dig 10000 ds):D.length=4*(i+1)∧Dig 10 D∧val 10 D=val 10000 (ds.take (i+1)):=by
 obtain ⟨h1,h2,h3,h4,h5,h6⟩:=h;have h7:=hd.getD (by omega) i;have h0:n=0:=by rw [h4];exact Nat.div_eq_of_lt (by simpa using h7)
 subst h0;refine ⟨by omega,h2,?_⟩;rw [Jl,←h5];simp
theorem Ja3.last {ds:List Nat} {i k:Nat} {D:List Nat} (h:Ja3 ds i k 0 D) (hi:i+1=ds.length):D.length≤4*ds.length∧Dig 10 D∧val 10 D=val 10000 ds∧(val 10000 ds≠0→Top ds→D=Jd 10 (val 10000 ds)):=by
 obtain ⟨h1,h2,h3,h4,h5,h6⟩:=h;have e:val 10 D=val 10000 ds:=by
  have:=Jl 10000 ds i;rw [List.take_of_length_le (by omega)] at this;rw [this,←h5];simp
 refine ⟨by omega,h2,e,fun hn ht=>?_⟩;rw [←e];refine (Yy (by omega) h2 (Jcy (by omega) h2 ?_)).symm;have hne:ds[i]?.getD 0≠0:=by
  intro h0;have h8:ds=ds.take i++[0]:=by
   conv=>lhs;rw [←List.take_append_drop i ds,List.drop_eq_getElem_cons (by omega:i<ds.length)]
   rw [List.drop_eq_nil_of_le (by omega)];rw [List.getElem?_eq_getElem (by omega)] at h0;have h0':ds[i]=0:=h0;rw [h0']
  have h9:(Jy ds).length≤i:=by
   rw [h8,YR];have:=Y3 (ds.take i);rw [List.length_take] at this;omega
  rw [ht] at h9;omega
 right
 rw [h1,e];have hk0:k≠0:=by
  intro hk;subst hk;simp at h4;omega
 rcases h6 with h6 | h6 | h6
 · omega
 · omega
 · have:=Jl 10000 ds i;rw [List.take_of_length_le (by omega)] at this;rw [this];have h10:(10:Nat) ^ (4*i+k - 1)=10000 ^ i*10 ^ (k - 1):=by
    rw [←Jsr,←Nat.pow_add];congr 1;omega
   rw [h10];have:=Nat.mul_le_mul_left (10000 ^ i) h6;omega
theorem Jfc {n:Nat} (h:n≠0):Xt n=txt (Jd 10 n):=by simp [Xt,h]
def isD (c:UInt8):Bool:=decide (48≤c.toNat) && decide (c.toNat≤57)
def dgs (l:List UInt8):List Nat:=(l.map (fun c=>c.toNat - 48)).reverse
def num (l:List UInt8):Nat:=val 10 (dgs l)
def JF (l:List UInt8):List UInt8:=if l.head?=some 45 then l.tail else l
def good (l:List UInt8):Bool:=decide (l.length≤2000) && !(JF l).isEmpty && (!decide ((JF l).head?=some 48) || decide (l=[48])) && (JF l).all isD
def YA (l:List UInt8):Int:=if l.head?=some 45 then -(num (JF l):Int) else num (JF l)
theorem Yv {c:UInt8} (h:isD c=true):48≤c.toNat∧c.toNat≤57:=by simpa [isD] using h
theorem Xg {d:Nat} (h:d<10):(chr d).toNat=48+d:=by
 unfold chr;rw [UInt8.toNat_ofNat'];omega
theorem Jss {c:UInt8} (h:isD c=true):chr (c.toNat - 48)=c:=by
 have hb:=Yv h;apply UInt8.toNat_inj.1;rw [Xg (by omega)];omega
theorem Jov (l:List UInt8) (c:UInt8):dgs (l++[c])=(c.toNat - 48)::dgs l:=by simp [dgs]
theorem Jfd (l:List UInt8) (c:UInt8):num (l++[c])=(c.toNat - 48)+10*num l:=by rw [num,Jov,JT];rfl
theorem Jk4 (a b:List UInt8):dgs (a++b)=dgs b++dgs a:=by simp [dgs]
theorem XL (l:List UInt8):(dgs l).length=l.length:=by simp [dgs]
theorem Xh (a b:List UInt8):num (a++b)=num b+10 ^ b.length*num a:=by rw [num,Jk4,val_append,XL];rfl
theorem Jew {l:List UInt8} (h:l.all isD=true):Dig 10 (dgs l):=by
 intro d hd;simp only [dgs,List.mem_reverse,List.mem_map] at hd;obtain ⟨c,hc,rfl⟩:=hd;have:=Yv (List.all_eq_true.1 h c hc);omega
theorem Jqy {l:List UInt8} (h:l.all isD=true):txt (dgs l)=l:=by
 simp only [txt,dgs,List.map_reverse,List.reverse_reverse,List.map_map];conv=>rhs;rw [←List.map_id l]
 apply List.map_congr_left;intro c hc;exact Jss (List.all_eq_true.1 h c hc)
theorem Jqz {c:UInt8} {l:List UInt8} (hc:isD c=true) (h0:c≠48):Top (dgs (c::l)):=by
 have e:dgs (c::l)=dgs l++[c.toNat - 48]:=by simp [dgs]
 rw [e];refine X9 _ ?_;have:=Yv hc;intro h;apply h0;apply UInt8.toNat_inj.1;show c.toNat=48;omega
theorem Jfe {c:UInt8} {l:List UInt8} (h:(c::l).all isD=true) (h0:c≠48):Xt (num (c::l))=c::l∧num (c::l)≠0:=by
 have hc:isD c=true:=List.all_eq_true.1 h c (List.mem_cons_self ..);have e:=Yy (B:=10) (by omega) (Jew h) (Jqz hc h0);have hne:num (c::l)≠0:=by
  intro hz;rw [show val 10 (dgs (c::l))=0 from hz,Jz] at e;have:=congrArg List.length e;rw [XL] at this;simp at this
 refine ⟨?_,hne⟩;rw [Jfc hne,num,e,Jqy h]
theorem Jow {l:List UInt8} (h:good l=true):XB (YA l)=l:=by
 simp only [good,Bool.and_eq_true,decide_eq_true_eq,Bool.or_eq_true,Bool.not_eq_true',decide_eq_false_iff_not] at h;obtain ⟨⟨⟨_,hne⟩,hz⟩,hd⟩:=h;cases ht:JF l with
 | nil=>rw [ht] at hne;simp at hne
 | cons c t=>
  rw [ht] at hz hd;by_cases h0:c=48
  · have hl:l=[48]:=by
     rcases hz with h | h
     · exact absurd (by rw [h0];rfl) h
     · exact h
    subst hl;simp [YA,JF,XB,Xt,num,dgs,val]
  · obtain ⟨h1,h2⟩:=Jfe hd h0;by_cases hm:l.head?=some 45
    · have hl:l=45::c::t:=by
       cases l with
       | nil=>simp at hm
       | cons x l'=>
        simp at hm;subst hm;simp [JF] at ht;rw [ht]
      rw [YA,if_pos hm,ht,XB,if_pos (by omega),Int.natAbs_neg,Int.natAbs_natCast,h1,hl]
    · have hl:l=c::t:=by rw [←ht,JF,if_neg hm]
      rw [YA,if_neg hm,ht,XB,if_neg (by omega),Int.natAbs_natCast,h1,hl]
theorem Jq0 {ds:List Nat} (h:Dig 10 ds):(txt ds).all isD=true:=by
 rw [List.all_eq_true];intro c hc;simp only [txt,List.mem_reverse,List.mem_map] at hc;obtain ⟨d,hd,rfl⟩:=hc;have:=h d hd;simp [isD,Xg this];omega
theorem Jq1 {ds:List Nat} (h:Dig 10 ds):num (txt ds)=val 10 ds:=by
 have e:dgs (txt ds)=ds:=by
  simp only [txt,dgs,List.map_reverse,List.reverse_reverse,List.map_map];conv=>rhs;rw [←List.map_id ds]
  apply List.map_congr_left;intro d hd;have:=h d hd;simp [Xg this]
 rw [num,e]
theorem Jhg {n:Nat} (hn:n≠0):∃ c t,Xt n=c::t∧c≠48∧c≠45∧(c::t).all isD=true∧num (c::t)=n:=by
 have hd:=Jq (B:=10) (by omega) n;have ht:=Y0 (B:=10) (by omega) n;have hv:=Jn (B:=10) (by omega) n;have hne:Jd 10 n≠[]:=by rw [Ne,JC (by omega)];exact hn
 have ha:=Jq0 hd;have hm:=Jq1 hd;have e:Xt n=txt (Jd 10 n):=Jfc hn;rw [hv] at hm;obtain ⟨ds,d,hds⟩:∃ ds d,Jd 10 n=ds++[d]:=⟨_,_,(List.dropLast_concat_getLast hne).symm⟩;rw [hds] at ha hm e ht hd;rw [Jou] at ha hm e;have hd0:d≠0:=by
  intro h0;subst h0;have h1:(Jy (ds++[0])).length≤ds.length:=by rw [YR];exact Y3 ds
  rw [ht] at h1;simp at h1;omega
 have hd10:d<10:=hd d (by simp);have hc:=Xg hd10;refine ⟨chr d,txt ds,e,?_,?_,ha,hm⟩
 · intro h;rw [h] at hc;have:(48:UInt8).toNat=48:=rfl;omega
 · intro h;rw [h] at hc;have:(45:UInt8).toNat=45:=rfl;omega
theorem Jbr {B n:Nat} (hB:10≤B):(Jd B n).length≤(Jd 10 n).length:=by
 refine JN (by omega) ?_;have h:=J2 (Jq (B:=10) (by omega) n);rw [Jn (by omega)] at h;exact Nat.lt_of_lt_of_le h (Nat.pow_le_pow_left hB _)
theorem Jm8 {l:List UInt8} (h:good l=true) {B:Nat} (hB:10≤B):(Jd B (YA l).natAbs).length≤2000:=by
 have e:=Jow h;have hl:l.length≤2000:=by
  simp only [good,Bool.and_eq_true,decide_eq_true_eq] at h;exact h.1.1.1
 rw [←e] at hl;refine Nat.le_trans (Jbr hB) ?_;by_cases hz:(YA l).natAbs=0
 · rw [hz,Jz];simp
 · have h3:(Xt (YA l).natAbs).length=(Jd 10 (YA l).natAbs).length:=by rw [Jfc hz,Jfb]
   unfold XB at hl;split at hl
   · simp at hl;omega
   · omega
def YM (f:UInt8→Bool) (l:List UInt8) (i:Nat):Nat:=i+((l.drop i).takeWhile f).length
def skB (l:List UInt8) (i:Nat):Nat:=YM (· == 32) l i
def dgE (l:List UInt8) (i:Nat):Nat:=YM isD l i
theorem Jgv {f:UInt8→Bool} {l:List UInt8} {n:Nat} (hn:n≤l.length) (h1:∀ k (h:k<n),f l[k]=true) (h2:∀ h:n<l.length,f l[n]=false):(l.takeWhile f).length=n:=by
 induction l generalizing n with
 | nil=>simp at hn ⊢;omega
 | cons c t ih=>
  cases n with
  | zero=>
   have:=h2 (by simp);simp at this;rw [List.takeWhile_cons_of_neg (by simp [this])];rfl
  | succ n=>
   have:=h1 0 (by omega);simp at this;rw [List.takeWhile_cons_of_pos this,List.length_cons,ih (n:=n) (by simpa using hn) (fun k hk=>h1 (k+1) (by omega)) (fun hk=>h2 (by simpa using hk))]
theorem Jde {f:UInt8→Bool} {l:List UInt8} {i j:Nat} (hi:i≤j) (hj:j≤l.length) (h1:∀ k (h:k<l.length),i≤k→k<j→f l[k]=true) (h2:∀ h:j<l.length,f l[j]=false):YM f l i=j:=by
 unfold YM;rw [Jgv (n:=j - i) (by rw [List.length_drop];omega)]
 · omega
 · intro k hk;rw [List.getElem_drop];exact h1 _ _ (by omega) (by omega)
 · intro hk;rw [List.getElem_drop];rw [List.length_drop] at hk;have e:i+(j - i)=j:=by omega
   have:=h2 (by omega);simp only [e];exact this
theorem XM (f:UInt8→Bool) (l:List UInt8):(l.takeWhile f).length≤l.length∧(∀ k (h:k<l.length),k<(l.takeWhile f).length→f l[k]=true)∧∀ h:(l.takeWhile f).length<l.length,f (l[(l.takeWhile f).length]'h)=false:=by
 induction l with
 | nil=>simp
 | cons c t ih=>
  by_cases hc:f c=true
  · rw [List.takeWhile_cons_of_pos hc];refine ⟨by simp only [List.length_cons];omega,fun k hk h=>?_,fun h=>?_⟩
    · cases k with
      | zero=>simpa using hc
      | succ k=>simpa using ih.2.1 k (by simpa using hk) (by simpa using h)
    · simp only [List.length_cons,List.getElem_cons_succ];exact ih.2.2 (by simpa using h)
  · rw [List.takeWhile_cons_of_neg (by simpa using hc)];refine ⟨by simp,fun k hk h=>by simp at h,fun h=>by simpa using hc⟩
theorem Jff (f:UInt8→Bool) (l:List UInt8) (i:Nat):i≤YM f l i:=Nat.le_add_right _ _
theorem Jfg {f:UInt8→Bool} {l:List UInt8} {i:Nat} (hi:i≤l.length):YM f l i≤l.length:=by
 have:=(XM f (l.drop i)).1;rw [List.length_drop] at this;unfold YM;omega
theorem Jox {f:UInt8→Bool} {l:List UInt8} {i k:Nat} (h1:i≤k) (h2:k<YM f l i) (h:k<l.length):f l[k]=true:=by
 have:=(XM f (l.drop i)).2.1 (k - i) (by rw [List.length_drop];omega) (by unfold YM at h2;omega);rw [List.getElem_drop] at this;have e:i+(k - i)=k:=by omega
 simpa only [e] using this
theorem Jfh {f:UInt8→Bool} {l:List UInt8} {i:Nat} (h:YM f l i<l.length):f (l[YM f l i]'h)=false:=by
 have h0:((l.drop i).takeWhile f).length<(l.drop i).length:=by
  rw [List.length_drop];unfold YM at h;omega
 have:=(XM f (l.drop i)).2.2 h0;rw [List.getElem_drop] at this;exact this
theorem Jk5 (f:UInt8→Bool) (l:List UInt8) (i:Nat):YM f l (YM f l i)=YM f l i:=by
 rcases Nat.lt_or_ge (YM f l i) l.length with h | h
 · exact Jde (Nat.le_refl _) (by omega) (fun k _ h1 h2=>by omega) (fun h'=>Jfh h')
 · unfold YM;rw [show i+((l.drop i).takeWhile f).length=YM f l i from rfl,List.drop_eq_nil_of_le h];rfl
def YJ (l:List UInt8) (j:Nat) (c:UInt8):Bool:=l[j]? == some c
inductive Rd (α:Type)
 | bad (e:Nat) (at_:Nat)
 | ok (a:α) (k:Nat)
def YO (l:List UInt8) (i:Nat):Rd (List UInt8 × Nat):=
 if dgE l (skB l i)=skB l i then .bad 2 (skB l i)
 else if 12<dgE l (skB l i) - skB l i then .bad 3 (skB l i)
 else .ok (((l.drop (skB l i)).take (dgE l (skB l i) - skB l i)),skB l i) (dgE l (skB l i))
def Yr (l:List UInt8) (i:Nat):Rd Rat:=
 match YO l i with
 | .bad e p=>.bad e p
 | .ok (ds,_) k=>
  if YJ l (skB l k) 47 then
   match YO l (skB l k+1) with
   | .bad e p=>.bad e p
   | .ok (es,p) m=>if num es=0 then .bad 4 p else .ok (Rat.divInt (num ds) (num es)) m
  else .ok ((num ds:Int):Rat) (skB l k)
def Jaa (l:List UInt8) (i:Nat):Rd Nat:=
 if YJ l (skB l i) 94 then
  match YO l (skB l i+1) with
  | .bad e p=>.bad e p
  | .ok (ds,p) k=>if 8<num ds then .bad 3 p else .ok (num ds) k
 else .ok 1 (skB l i)
def Jah (l:List UInt8) (j:Nat):Bool:=(l[j]?.map isD).getD false
def Yc (l:List UInt8) (i:Nat):Rd (Rat × Nat):=
 if Jah l (skB l i) then
  match Yr l (skB l i) with
  | .bad e p=>.bad e p
  | .ok c k=>
   if YJ l (skB l k) 120 then
    match Jaa l (skB l k+1) with
    | .bad e p=>.bad e p
    | .ok n m=>.ok (c,n) m
   else .ok (c,0) (skB l k)
 else if YJ l (skB l i) 120 then
  match Jaa l (skB l i+1) with
  | .bad e p=>.bad e p
  | .ok n m=>.ok (1,n) m
 else .bad 2 (skB l i)
def Ja4 (l:List UInt8):Nat→Bool→Nat→List Rat→Rd (List Rat)
 | 0,_,i,_=>.bad 0 i
 | f+1,minus,i,s=>
  match Yc l i with
  | .bad e p=>.bad e p
  | .ok (c,n) k=>
   let s':=s.set n (if minus then cf s n - c else cf s n+c)
   if YJ l (skB l k) 43 then Ja4 l f false (skB l k+1) s'
   else if YJ l (skB l k) 45 then Ja4 l f true (skB l k+1) s'
   else if skB l k=l.length then .ok s' (skB l k)
   else .bad 2 (skB l k)
def JV (l:List UInt8):List Rat × Nat × Nat:=
 if 300<l.length then ([],1,0)
 else
  match (if YJ l (skB l 0) 45 then Ja4 l (l.length+1) true (skB l 0+1) (List.replicate 9 0) else Ja4 l (l.length+1) false (skB l 0) (List.replicate 9 0)) with
  | .bad e p=>([],e,p)
  | .ok s _=>(Ji s,0,0)
theorem Ja5 {l:List UInt8} {i p k:Nat} {ds:List UInt8} (hi:i≤l.length) (h:YO l i=.ok (ds,p) k):p=skB l i∧k=dgE l p∧i≤p∧p<k∧k≤l.length∧k - p≤12∧ds=(l.drop p).take (k - p)∧ds.length=k - p∧ds.all isD=true:=by
 unfold YO at h;split at h
 · cases h
 · split at h
   · cases h
   · rename_i h1 h2;simp only [Rd.ok.injEq,Prod.mk.injEq] at h;obtain ⟨⟨rfl,rfl⟩,rfl⟩:=h;have hs:skB l i≤l.length:=Jfg hi;have h3:skB l i≤dgE l (skB l i):=Jff _ _ _;have h4:dgE l (skB l i)≤l.length:=Jfg hs;have hlen:((l.drop (skB l i)).take (dgE l (skB l i) - skB l i)).length=dgE l (skB l i) - skB l i:=by rw [List.length_take,List.length_drop];omega
     refine ⟨rfl,rfl,Jff _ _ _,by omega,h4,by omega,rfl,hlen,?_⟩;rw [List.all_eq_true];intro c hc;obtain ⟨n,hn,rfl⟩:=List.mem_iff_getElem.1 hc;rw [hlen] at hn;rw [List.getElem_take,List.getElem_drop];exact Jox (f:=isD) (i:=skB l i) (by omega) (by show _<dgE l (skB l i);omega) (by omega)
theorem Jic {l:List UInt8} {i p k:Nat} {ds:List UInt8} (hi:i≤l.length) (h:YO l i=.ok (ds,p) k):i<k∧k≤l.length:=by
 have:=Ja5 hi h;omega
theorem Yk {l:List UInt8} {j:Nat} {c:UInt8} (h:YJ l j c=true):j<l.length:=by
 unfold YJ at h;rcases Nat.lt_or_ge j l.length with h1 | h1
 · exact h1
 · rw [List.getElem?_eq_none h1] at h;simp at h
theorem Y5 {l:List UInt8} {i:Nat} (hi:i≤l.length):skB l i≤l.length:=Jfg hi
theorem Jcz (l:List UInt8) (i:Nat):i≤skB l i:=Jff _ _ _
theorem Jja {l:List UInt8} {i k:Nat} {c:Rat} (hi:i≤l.length) (h:Yr l i=.ok c k):i<k∧k≤l.length:=by
 unfold Yr at h;split at h
 · cases h
 · rename_i ds p k' h1;have h2:=Jic hi h1;have h3:=Jcz l k';have h4:=Y5 h2.2;split at h
   · rename_i h5;have h5:=Yk h5;split at h
     · cases h
     · rename_i es p' m h6;have h7:=Jic (by omega) h6;split at h
       · cases h
       · cases h;omega
   · cases h;omega
theorem Jme {l:List UInt8} {i k n:Nat} (hi:i≤l.length) (h:Jaa l i=.ok n k):i≤k∧k≤l.length∧n≤8:=by
 unfold Jaa at h;have h3:=Jcz l i;have h4:=Y5 hi;split at h
 · rename_i h5;have h5:=Yk h5;split at h
   · cases h
   · rename_i es p' m h6;have h7:=Jic (by omega) h6;split at h
     · cases h
     · cases h;omega
 · cases h;omega
theorem Jfi {l:List UInt8} {i k n:Nat} {c:Rat} (hi:i≤l.length) (h:Yc l i=.ok (c,n) k):i<k∧k≤l.length∧n≤8:=by
 unfold Yc at h;have h3:=Jcz l i;have h4:=Y5 hi;split at h
 · split at h
   · cases h
   · rename_i c' k' h1;have h2:=Jja h4 h1;have h5:=Jcz l k';have h6:=Y5 h2.2;split at h
     · rename_i h7;have h7:=Yk h7;split at h
       · cases h
       · rename_i n' m h8;have h9:=Jme (by omega) h8;cases h;omega
     · cases h;omega
 · split at h
   · rename_i h7;have h7:=Yk h7;split at h
     · cases h
     · rename_i n' m h8;have h9:=Jme (by omega) h8;cases h;omega
   · cases h
def Jdf (u u1 d1 d0 q r:Nat):Prop:=
 q*d1+r=u∧(u*4294967296+u1) / (d1*4294967296+d0)≤q∧q≤4294967297∧r<4294967296
theorem Jeh {u u1 d1 d0:Nat} (h1:2147483648≤d1) (h1':d1<4294967296) (h0:d0<4294967296) (hu1:u1<4294967296) (hu:u<d1*4294967296+d0) :
 Jdf u u1 d1 d0 (u / d1) (u % d1):=by
 have hm:=Nat.div_add_mod u d1;have hr:u % d1<d1:=Nat.mod_lt _ (by omega);have hc:d1*(u / d1)=u / d1*d1:=Nat.mul_comm _ _;refine ⟨by omega,?_,?_,by omega⟩
 · apply Nat.le_of_lt_succ;rw [Nat.div_lt_iff_lt_mul (by omega)];have h3:(u / d1+1)*(d1*4294967296+d0)=u / d1*d1*4294967296+d1*4294967296+(u / d1+1)*d0:=by
    rw [Nat.mul_add,←Nat.mul_assoc,Nat.add_mul (u / d1) 1 d1,Nat.one_mul,Nat.add_mul (u / d1*d1) d1]
   rw [Nat.succ_eq_add_one,h3];generalize u / d1*d1=p at *;generalize (u / d1+1)*d0=z;omega
 · apply Nat.le_of_lt_succ;rw [Nat.div_lt_iff_lt_mul (by omega)];omega
theorem Jfj {u u1 d1 d0 q r:Nat} (h:Jdf u u1 d1 d0 q r) (hd:0<d1) (hc:q*d0≤4294967296*r+u1):q=(u*4294967296+u1) / (d1*4294967296+d0):=by
 obtain ⟨h1,h2,_,_⟩:=h;apply Nat.le_antisymm _ h2;rw [Nat.le_div_iff_mul_le (by omega),Nat.mul_add,←Nat.mul_assoc];generalize q*d1=p at *;generalize q*d0=z at *;omega
theorem Jfk {u u1 d1 d0 q r:Nat} (h:Jdf u u1 d1 d0 q r) (hd:2147483648≤d1) (hu1:u1<4294967296) (hu:u<d1*4294967296+d0) (hc:4294967296≤q∨4294967296*r+u1<q*d0) :
 1≤q∧(q - 1)*d1+(r+d1)=u∧(u*4294967296+u1) / (d1*4294967296+d0)≤q - 1∧q - 1≤4294967296:=by
 obtain ⟨h1,h2,h3,h4⟩:=h;have hq:1≤q:=by
  rcases hc with hc | hc
  · omega
  · rcases Nat.eq_zero_or_pos q with h0 | h0
    · rw [h0] at hc;omega
    · exact h0
 have e:(q - 1)*d1+d1=q*d1:=by
  conv=>rhs;rw [show q=q - 1+1 from by omega,Nat.add_mul,Nat.one_mul]
 refine ⟨hq,by omega,?_,by omega⟩;apply Nat.le_of_lt_succ;rw [Nat.succ_eq_add_one,Nat.sub_add_cancel hq,Nat.div_lt_iff_lt_mul (by omega)];rcases hc with hc | hc
 · have h5:4294967296*(d1*4294967296+d0)≤q*(d1*4294967296+d0):=Nat.mul_le_mul_right _ hc;omega
 · rw [Nat.mul_add,←Nat.mul_assoc];generalize q*d1=p at *;generalize q*d0=z at *;omega
theorem XX {u u1 d1 d0 q r:Nat} (h1:q*d1+r=u) (h2:(u*4294967296+u1) / (d1*4294967296+d0)≤q) (h3:q≤4294967296) (h0:d0<4294967296) (hd:0<d1) (hr:4294967296≤r):q=(u*4294967296+u1) / (d1*4294967296+d0):=by
 apply Nat.le_antisymm _ h2;rw [Nat.le_div_iff_mul_le (by omega),Nat.mul_add,←Nat.mul_assoc];have h5:q*d0≤4294967296*d0:=Nat.mul_le_mul_right _ h3;generalize q*d1=p at *;generalize q*d0=z at *;omega
theorem Joy {t k un0 d:Nat} (h0:0<d):t / d*k+(t % d*k+un0) / d=(t*k+un0) / d∧(t % d*k+un0) % d=(t*k+un0) % d:=by
 have hm:=Nat.div_add_mod t d;have e:t*k+un0=d*(t / d*k)+(t % d*k+un0):=by
  conv=>lhs;rw [←hm,Nat.add_mul,Nat.mul_assoc]
  omega
 rw [e,Nat.mul_add_div h0,Nat.mul_add_mod];exact ⟨rfl,rfl⟩
theorem Jm9 {a y s:Nat}:(a*2 ^ s) / (y*2 ^ s)=a / y∧(a*2 ^ s) % (y*2 ^ s)=a % y*2 ^ s:=
 ⟨Nat.mul_div_mul_right _ _ (Nat.two_pow_pos s),Nat.mul_mod_mul_right _ _ _⟩
def Jid (B u u1 d1 d0 q r:Nat):Prop:=
 q*d1+r=u∧(u*B+u1) / (d1*B+d0)≤q∧q<B∧r<B
theorem Jie {B u u1 d1 d0:Nat} (h1:0<d1) (hd:d1<B) (hu1:u1<B) (hu:u<d1*B):Jid B u u1 d1 d0 (u / d1) (u % d1):=by
 have hm:=Nat.div_add_mod u d1;have hr:u % d1<d1:=Nat.mod_lt _ h1;have hc:d1*(u / d1)=u / d1*d1:=Nat.mul_comm _ _;have hp:0<d1*B:=Nat.mul_pos h1 (by omega);refine ⟨by omega,?_,?_,by omega⟩
 · apply Nat.le_of_lt_succ;rw [Nat.div_lt_iff_lt_mul (by omega),Nat.succ_eq_add_one];have h3:(u / d1+1)*(d1*B+d0)=(u / d1*d1+d1)*B+(u / d1+1)*d0:=by grind
   rw [h3];have h4:(u+1)*B≤(u / d1*d1+d1)*B:=Nat.mul_le_mul_right _ (by omega);rw [Nat.add_mul,Nat.one_mul] at h4;generalize (u / d1+1)*d0=z;omega
 · rw [Nat.div_lt_iff_lt_mul h1,Nat.mul_comm];exact hu
theorem Jbs {B u u1 d1 d0 q r:Nat} (h1:q*d1+r=u) (h2:(u*B+u1) / (d1*B+d0)≤q) (hd:0<d1*B) (hc:q*d0≤r*B+u1):q=(u*B+u1) / (d1*B+d0):=by
 apply Nat.le_antisymm _ h2;rw [Nat.le_div_iff_mul_le (by omega),Nat.mul_add,←Nat.mul_assoc,←h1,Nat.add_mul];omega
theorem Jjb {B u u1 d1 d0 q r:Nat} (h:Jid B u u1 d1 d0 q r) (hd:0<d1*B) (hc:r*B+u1<q*d0) :
 1≤q∧(q - 1)*d1+(r+d1)=u∧(u*B+u1) / (d1*B+d0)≤q - 1∧q - 1<B:=by
 obtain ⟨h1,h2,h3,h4⟩:=h;have hq:1≤q:=by
  rcases Nat.eq_zero_or_pos q with h0 | h0
  · rw [h0] at hc;omega
  · exact h0
 have e:(q - 1)*d1+d1=q*d1:=by
  rw [←Nat.succ_mul];congr 1;omega
 refine ⟨hq,by omega,?_,by omega⟩;apply Nat.le_of_lt_succ;rw [Nat.succ_eq_add_one,Nat.sub_add_cancel hq,Nat.div_lt_iff_lt_mul (by omega),Nat.mul_add,←Nat.mul_assoc,←h1,Nat.add_mul];omega
theorem Jif {B u u1 d1 d0 q r:Nat} (h1:q*d1+r=u) (h2:(u*B+u1) / (d1*B+d0)≤q) (h3:q<B) (h0:d0<B) (hd:0<d1*B) (hr:B≤r):q=(u*B+u1) / (d1*B+d0):=by
 apply Jbs h1 h2 hd;have h4:q*d0≤B*d0:=Nat.mul_le_mul_right _ (by omega);have h5:B*d0≤B*B:=Nat.mul_le_mul_left _ (by omega);have h6:B*B≤r*B:=Nat.mul_le_mul_right _ hr;omega
def Jgw (R V g:Nat):Prop:=R<(g+1)*V∧g*V≤R+V
theorem Jk6 {T V2 E lo lo2 R V:Nat} (hR:R=T*E+lo) (hV:V=V2*E+lo2) (h1:lo<E) (h2:lo2<E) (hw:T / V2≤V2) (h0:0<V2):Jgw R V (T / V2):=by
 have hm:=Nat.div_add_mod T V2;have hr:=Nat.mod_lt T h0;generalize T / V2=g at *;generalize T % V2=t at *;have a1:(T+1)*E≤(V2*g+V2)*E:=Nat.mul_le_mul_right _ (by omega);have a2:(g+1)*V=(V2*g+V2)*E+(g+1)*lo2:=by rw [hV];grind
 have a3:g*lo2≤g*E:=Nat.mul_le_mul_left _ (by omega);have a4:(V2*g+g)*E≤(T+V2)*E:=Nat.mul_le_mul_right _ (by omega);have a5:g*V=V2*g*E+g*lo2:=by rw [hV];grind
 rw [Nat.add_mul] at a1 a4;refine ⟨?_,?_⟩
 · rw [a2,hR];generalize (g+1)*lo2=z;omega
 · rw [a5,hR,hV];rw [Nat.add_mul] at a4;omega
theorem Joz {B d1 E lo lo2 R V:Nat} (hR:R=d1*(B*E)+lo) (hV:V=d1*E+lo2) (h2:lo2<E) (hd:B≤2*d1) (hRV:R<V*B) (hB:2≤B):Jgw R V (B - 1):=by
 refine ⟨by rw [Nat.sub_add_cancel (by omega),Nat.mul_comm];exact hRV,?_⟩;obtain ⟨c,rfl⟩:∃ c,B=c+2:=⟨B - 2,by omega⟩;rw [show c+2 - 1=c+1 from by omega,Nat.add_mul,Nat.one_mul];apply Nat.add_le_add_right;rw [hR,hV,Nat.mul_add];have a1:c*lo2≤c*E:=Nat.mul_le_mul_left _ (by omega);have a2:c*E≤2*d1*E:=Nat.mul_le_mul_right _ (by omega);have a3:d1*((c+2)*E)=c*(d1*E)+2*d1*E:=by grind
 omega
theorem Jna {R V g q:Nat} (h:Jgw R V g) (hq:q+V*g=R):g=R / V∧q=R % V:=by
 have hg:g*V=V*g:=Nat.mul_comm _ _;have h1:=h.1;rw [Nat.add_mul,Nat.one_mul] at h1;have hqV:q<V:=by omega
 rw [←hq];exact ⟨by rw [Nat.add_mul_div_left _ _ (by omega),Nat.div_eq_of_lt hqV,Nat.zero_add],by rw [Nat.add_mul_mod_self_left,Nat.mod_eq_of_lt hqV]⟩
theorem Jnb {R V g q P q2 c2:Nat} (h:Jgw R V g) (hq:q+V*g=R+P) (hqP:q<P) (hq2:q2+P*c2=q+V) (hq2P:q2<P) (hc2:c2≤1):1≤g∧g - 1=R / V∧q2=R % V:=by
 have h2:=h.2;have hg:g*V=V*g:=Nat.mul_comm _ _;have hg1:1≤g:=by
  rcases Nat.eq_zero_or_pos g with h0 | h0
  · rw [h0] at hq;omega
  · exact h0
 have e:V*(g - 1)+V=V*g:=by rw [←Nat.mul_succ];congr 1;omega
 have hc:c2=1:=by
  rcases (by omega:c2=0∨c2=1) with h0 | h0
  · subst h0;omega
  · exact h0
 subst hc;have hR:q2+V*(g - 1)=R:=by omega
 have hqV:q2<V:=by omega
 rw [←hR];exact ⟨hg1,by rw [Nat.add_mul_div_left _ _ (by omega),Nat.div_eq_of_lt hqV,Nat.zero_add],by rw [Nat.add_mul_mod_self_left,Nat.mod_eq_of_lt hqV]⟩
def YE (x y:Nat):Nat:=(x - y)+(y - x)
def Jbl (H L:Nat) (s:Int) (h l na nb xa xb:Nat):Prop:=
 (s=1∨s=-1)∧H=nb*l+xb*h∧L=na*l+xa*h∧(na:Int)*xb - nb*xa=s∧xa≤xb∧na+xa≤nb+xb∧1≤xb∧l≤h
theorem Jbl.start {H L:Nat} (h:L≤H):Jbl H L 1 H L 1 0 0 1:=
 ⟨Or.inl rfl,by omega,by omega,by omega,by omega,by omega,by omega,h⟩
theorem Jbl.step {H L h l na nb xa xb:Nat} {s:Int} (hs:Jbl H L s h l na nb xa xb) (hl:1≤l) :
 Jbl H L (-s) l (h % l) xa xb (na+h / l*xa) (nb+h / l*xb):=by
 obtain ⟨h1,h2,h3,h4,h5,h6,h7,h8⟩:=hs;have hm:=Nat.div_add_mod h l;have hq:1≤h / l:=(Nat.le_div_iff_mul_le (by omega)).2 (by omega);have hr:h % l<l:=Nat.mod_lt _ (by omega);generalize h / l=q at *;generalize h % l=r at *;subst hm;have e5:q*xa≤q*xb:=Nat.mul_le_mul_left q h5;have e6:xa≤q*xa:=Nat.le_mul_of_pos_left xa hq;have e7:xb≤q*xb:=Nat.le_mul_of_pos_left xb hq;have e8:(q - 1)*xa≤(q - 1)*xb:=Nat.mul_le_mul_left _ h5;have e9:(q - 1)*xa+xa=q*xa:=by
  rw [←Nat.succ_mul];congr 1;omega
 have e10:(q - 1)*xb+xb=q*xb:=by
  rw [←Nat.succ_mul];congr 1;omega
 refine ⟨by omega,by rw [h2];grind,by rw [h3];grind,?_,by omega,by omega,by omega,by omega⟩;rw [←h4];push_cast
 grind
theorem Jbl.small {H L h l na nb xa xb:Nat} {s:Int} (hs:Jbl H L s h l na nb xa xb) (hl:1≤l):nb+xb≤H∧na+xa≤L:=by
 obtain ⟨h1,h2,h3,h4,h5,h6,h7,h8⟩:=hs;have e1:nb≤nb*l:=Nat.le_mul_of_pos_right nb hl;have e2:xb≤xb*h:=Nat.le_mul_of_pos_right xb (by omega);have e3:na≤na*l:=Nat.le_mul_of_pos_right na hl;have e4:xa≤xa*h:=Nat.le_mul_of_pos_right xa (by omega);omega
def Ja6 (A B pa pb na nb:Nat):Prop:=
 A=pb*YE (na*A) (nb*B)+nb*YE (pa*A) (pb*B)∧B=pa*YE (na*A) (nb*B)+na*YE (pa*A) (pb*B)∧
 YE (na*A) (nb*B)<YE (pa*A) (pb*B)∧1≤nb
theorem Jei {x y:Nat} {z:Int} (hz:0≤z) (h:z=(x:Int) - y∨z=(y:Int) - x):(YE x y:Int)=z:=by
 unfold YE;omega
theorem Jbl.out {H L S al be A B h l na nb xa xb:Nat} {s:Int} (hs:Jbl H L s h l na nb xa xb) (hA:A=H*S+al) (hB:B=L*S+be) (ha:al<S) (hb:be<S)
 (hl:xb≤l) (hh:nb+xb≤h - l):Ja6 A B na nb xa xb:=by
 obtain ⟨h1,h2,h3,h4,h5,h6,h7,h8⟩:=hs;have eH:(H:Int)=nb*l+xb*h:=by rw [h2];push_cast;rfl
 have eL:(L:Int)=na*l+xa*h:=by rw [h3];push_cast;rfl
 have eA:(A:Int)=H*S+al:=by rw [hA];push_cast;rfl
 have eB:(B:Int)=L*S+be:=by rw [hB];push_cast;rfl
 have hss:s*s=1:=by rcases h1 with rfl | rfl <;> rfl
 obtain ⟨X,hX⟩:∃ X:Int,X=s*(na*A - nb*B):=⟨_,rfl⟩;obtain ⟨Y,hY⟩:∃ Y:Int,Y=-s*(xa*A - xb*B):=⟨_,rfl⟩;have x1:X=(h:Int)*S+s*(na*al - nb*be):=by
  have:X=(s*(na*xb - nb*xa))*h*S+s*(na*al - nb*be):=by rw [hX,eA,eB,eH,eL];grind
  rw [this,h4,hss];grind
 have y1:Y=(l:Int)*S - s*(xa*al - xb*be):=by
  have:Y=(s*(na*xb - nb*xa))*l*S - s*(xa*al - xb*be):=by rw [hY,eA,eB,eH,eL];grind
  rw [this,h4,hss];grind
 have c1:(xa:Int)*al≤xb*al:=by exact_mod_cast Nat.mul_le_mul_right al h5
 have c2:(xb:Int)*al<xb*S:=by exact_mod_cast Nat.mul_lt_mul_of_pos_left ha (by omega)
 have c3:(xb:Int)*be<xb*S:=by exact_mod_cast Nat.mul_lt_mul_of_pos_left hb (by omega)
 have c4:(xb:Int)*S≤l*S:=by exact_mod_cast Nat.mul_le_mul_right S hl
 have d1:((na+xa:Nat):Int)*al≤(nb+xb:Nat)*al:=by exact_mod_cast Nat.mul_le_mul_right al h6
 have d2:((nb+xb:Nat):Int)*al<(nb+xb:Nat)*S:=by exact_mod_cast Nat.mul_lt_mul_of_pos_left ha (by omega)
 have d3:((nb+xb:Nat):Int)*be<(nb+xb:Nat)*S:=by exact_mod_cast Nat.mul_lt_mul_of_pos_left hb (by omega)
 have d4:((nb+xb:Nat):Int)*S≤(h - l:Nat)*S:=by exact_mod_cast Nat.mul_le_mul_right S hh
 have d5:((h - l:Nat):Int)=h - l:=by omega
 rw [d5] at d4;simp only [Int.natCast_add,Int.add_mul,Int.sub_mul] at d1 d2 d3 d4;have p1:(0:Int)≤xb*be:=by exact_mod_cast Nat.zero_le _
 have p2:(0:Int)≤xa*al:=by exact_mod_cast Nat.zero_le _
 have p3:(0:Int)≤na*al:=by exact_mod_cast Nat.zero_le _
 have p4:(0:Int)≤nb*be:=by exact_mod_cast Nat.zero_le _
 have hY0:0<Y:=by
  rw [y1];rcases h1 with rfl | rfl <;> omega
 have hXY:Y<X:=by
  rw [x1,y1];rcases h1 with rfl | rfl <;> omega
 have ex:(YE (na*A) (nb*B):Int)=X:=Jei (by omega) (by push_cast;rw [hX];rcases h1 with rfl | rfl <;> omega);have ey:(YE (xa*A) (xb*B):Int)=Y:=Jei (by omega) (by push_cast;rw [hY];rcases h1 with rfl | rfl <;> omega);refine ⟨?_,?_,by omega,h7⟩
 · have:(A:Int)=nb*Y+xb*X:=by
    have:(nb:Int)*Y+xb*X=(s*(na*xb - nb*xa))*A:=by rw [hX,hY];grind
    rw [this,h4,hss];omega
   rw [←ex,←ey] at this;exact_mod_cast this
 · have:(B:Int)=na*Y+xa*X:=by
    have:(na:Int)*Y+xa*X=(s*(na*xb - nb*xa))*B:=by rw [hX,hY];grind
    rw [this,h4,hss];omega
   rw [←ex,←ey] at this;exact_mod_cast this
theorem Ja6.gcd {A B pa pb na nb:Nat} (h:Ja6 A B pa pb na nb):Nat.gcd (YE (pa*A) (pb*B)) (YE (na*A) (nb*B))=Nat.gcd A B:=by
 obtain ⟨h1,h2,_,_⟩:=h;apply Nat.dvd_antisymm
 · have k1:=Nat.gcd_dvd_left (YE (pa*A) (pb*B)) (YE (na*A) (nb*B));have k2:=Nat.gcd_dvd_right (YE (pa*A) (pb*B)) (YE (na*A) (nb*B));generalize Nat.gcd (YE (pa*A) (pb*B)) (YE (na*A) (nb*B))=g at *;apply Nat.dvd_gcd
   · rw [h1];exact Nat.dvd_add (Nat.dvd_mul_left_of_dvd k2 _) (Nat.dvd_mul_left_of_dvd k1 _)
   · rw [h2];exact Nat.dvd_add (Nat.dvd_mul_left_of_dvd k2 _) (Nat.dvd_mul_left_of_dvd k1 _)
 · have k1:=Nat.gcd_dvd_left A B;have k2:=Nat.gcd_dvd_right A B;generalize Nat.gcd A B=g at *;have hd:∀ x y:Nat,g∣YE (x*A) (y*B):=fun x y=>by
    unfold YE;exact Nat.dvd_add (Nat.dvd_sub (Nat.dvd_mul_left_of_dvd k1 _) (Nat.dvd_mul_left_of_dvd k2 _)) (Nat.dvd_sub (Nat.dvd_mul_left_of_dvd k2 _) (Nat.dvd_mul_left_of_dvd k1 _))
   exact Nat.dvd_gcd (hd _ _) (hd _ _)
theorem Ja6.less {A B pa pb na nb:Nat} (h:Ja6 A B pa pb na nb) (hp:pb≠0) (hB:0<B):YE (pa*A) (pb*B)+YE (na*A) (nb*B)<A+B:=by
 obtain ⟨h1,h2,h3,h4⟩:=h;have e1:YE (na*A) (nb*B)≤pb*YE (na*A) (nb*B):=Nat.le_mul_of_pos_left _ (by omega);have e2:YE (pa*A) (pb*B)≤nb*YE (pa*A) (pb*B):=Nat.le_mul_of_pos_left _ (by omega);omega
end Go.Proofs.YtcahejkcdcjjgaaGreatDoor
