import Init
import Derived.Test.YtcahejkcdcjjgaaGreatDoorK01
set_option maxRecDepth 100000
set_option maxHeartbeats 16000000
namespace Go.Proofs.YtcahejkcdcjjgaaGreatDoor
def val(B:Nat):List Nat→Nat
 |[]=>0
 |d::ds=>d+B*val B ds
def Dig(B:Nat)(ds:List Nat):Prop:=∀d∈ds,d<B
def Jc(B n:Nat):List Nat:=
 if _h:n=0∨B<2 then []else n%B::Jc B (n/B)
termination_by n
decreasing_by
 have h1:n≠0:=fun e=>_h (Or.inl e);have _h2:¬B<2:=fun e=>_h (Or.inr e);exact Nat.div_lt_self (by omega) (by omega)
def Jv:List Nat→List Nat
 |[]=>[]
 |d::ds=>match Jv ds with
  |[]=>if d=0 then []else [d]
  |e::es=>d::e::es
theorem Dig.nil(B:Nat):Dig B []:=fun _ h=>by cases h
theorem Dig.cons{B d:Nat}{ds:List Nat}(h:d<B)(k:Dig B ds):Dig B (d::ds):=fun x hx=>by
 rcases List.mem_cons.1 hx with rfl|hx
 · exact h
 · exact k x hx
theorem Dig.head{B d:Nat}{ds:List Nat}(h:Dig B (d::ds)):d<B:=h d (CA ..)
theorem Dig.tail{B d:Nat}{ds:List Nat}(h:Dig B (d::ds)):Dig B ds:=fun x hx=>h x (List.mem_cons_of_mem _ hx)
theorem Dig.append{B:Nat}{a b:List Nat}(h:Dig B a)(k:Dig B b):Dig B (a++b):=fun x hx=>by
 rcases CD.1 hx with hx|hx
 · exact h x hx
 · exact k x hx
theorem Dig.left{B:Nat}{a b:List Nat}(h:Dig B (a++b)):Dig B a:=fun x hx=>h x (CD.2 (Or.inl hx))
theorem Dig.right{B:Nat}{a b:List Nat}(h:Dig B (a++b)):Dig B b:=fun x hx=>h x (CD.2 (Or.inr hx))
theorem Jd3(B:Nat):val B []=0:=rfl
theorem JX(B d:Nat)(ds:List Nat):val B (d::ds)=d+B*val B ds:=rfl
theorem val_append(B:Nat):∀(a b:List Nat),val B (a++b)=val B a+B^a.length*val B b
 |[],b=>by simp[val]
 |d::a,b=>by
  simp only[Az,JX,val_append B a b,Al,AK];rw[Av,As (B^a.length) B,Au,CG]
theorem J7{B:Nat}:∀ {ds:List Nat},Dig B ds→val B ds<B^ds.length
 |[],_=>by simp[val]
 |d::ds,h=>by
  have h1:=h.head;have h2:=J7 h.tail;simp only[JX,Al,AK];have h3:B*val B ds+B≤B*B^ds.length:=by
   rw[←Nat.mul_succ];exact Ay _ h2
  rw[As (B^ds.length) B];omega
theorem Jw(B:Nat):Jc B 0=[]:=by rw[Jc];simp
theorem Xf{B n:Nat}(hB:2≤B)(hn:n≠0):Jc B n=n%B::Jc B (n/B):=by
 rw[Jc];rw[dif_neg];intro h;rcases h with h|h
 · exact hn h
 · omega
theorem Jl{B:Nat}(hB:2≤B)(n:Nat):val B (Jc B n)=n:=by
 induction n using Nat.strongRecOn with
 |ind n ih=>
  by_cases hn:n=0
  · subst hn;rw[Jw];rfl
  · rw[Xf hB hn,JX,ih _ (Nat.div_lt_self (by omega) (by omega))];exact Nat.mod_add_div n B
theorem Jm{B:Nat}(hB:2≤B)(n:Nat):Dig B (Jc B n):=by
 induction n using Nat.strongRecOn with
 |ind n ih=>
  by_cases hn:n=0
  · subst hn;rw[Jw];exact Dig.nil B
  · rw[Xf hB hn];exact Dig.cons (A4 _ (by omega)) (ih _ (Nat.div_lt_self (by omega) (by omega)))
theorem JC{B:Nat}(hB:2≤B){n:Nat}:Jc B n=[]↔n=0:=by
 constructor
 · intro h;have:=Jl hB n;rw[h]at this;exact this.symm
 · intro h;rw[h,Jw]
theorem J5{ds:List Nat}{d:Nat}(h:Jv ds=[]):Jv (d::ds)=if d=0 then []else [d]:=by
 simp only[Jv,h]
theorem Ym{ds:List Nat}{d:Nat}(h:Jv ds≠[]):Jv (d::ds)=d::Jv ds:=by
 simp only[Jv];cases h':Jv ds with
 |nil=>exact absurd h' h
 |cons e es=>rfl
theorem Jc1(B:Nat):∀(ds:List Nat),val B (Jv ds)=val B ds
 |[]=>rfl
 |d::ds=>by
  by_cases h:Jv ds=[]
  · have:=Jc1 B ds;rw[h]at this;rw[J5 h,JX,←this];by_cases hd:d=0
    · simp[hd,val]
    · simp[hd,val]
  · rw[Ym h,JX,JX,Jc1 B ds]
theorem JW{B:Nat}(hB:2≤B):∀ {ds:List Nat},Dig B ds→Jc B (val B ds)=Jv ds
 |[],_=>by rw[Jd3,Jw];rfl
 |d::ds,h=>by
  have h1:=h.head;have ih:=JW hB h.tail;rw[JX];by_cases hz:d+B*val B ds=0
  · have hd:d=0:=by omega
    have hv:val B ds=0:=by
     rcases AQ (val B ds)with h0|h0
     · exact h0
     · have:0<B*val B ds:=Nat.mul_pos (by omega) h0;omega
    rw[hv,Jw]at ih;rw[hz,Jw,J5 ih.symm,if_pos hd]
  · rw[Xf hB hz];have e1:(d+B*val B ds)%B=d:=by rw[CE];exact Cn h1
    have e2:(d+B*val B ds)/B=val B ds:=by
     rw[CR _ _ (by omega),Ci h1,Cc]
    rw[e1,e2,ih];by_cases ht:Jv ds=[]
    · rw[J5 ht,ht];have hv:val B ds=0:=by rw[←Jc1 B ds,ht];rfl
      rw[if_neg];intro hd;apply hz;rw[hd,hv];simp
    · rw[Ym ht]
def Top(ds:List Nat):Prop:=Jv ds=ds
theorem Ya{B:Nat}(hB:2≤B)(n:Nat):Top (Jc B n):=by
 have h:=JW hB (Jm hB n);rw[Jl hB]at h;exact h.symm
theorem YO{B:Nat}(hB:2≤B){ds:List Nat}(h:Dig B ds)(ht:Top ds):Jc B (val B ds)=ds:=(JW hB h).trans ht
theorem Y4:∀(ds:List Nat) {d:Nat},d≠0→Jv (ds++[d])=ds++[d]
 |[],d,h=>by simp[Jv,h]
 |e::ds,d,h=>by
  have ih:=Y4 ds h;rw[Az,Ym (by rw[ih];simp),ih]
theorem Yw:∀(ds:List Nat),Jv (ds++[0])=Jv ds
 |[]=>by simp[Jv]
 |e::ds=>by
  have ih:=Yw ds;by_cases h:Jv ds=[]
  · rw[Az,J5 (by rw[ih];exact h),J5 h]
  · rw[Az,Ym (by rw[ih];exact h),Ym h,ih]
theorem Jf8(ds:List Nat)(k:Nat)(hk:k≤ds.length)(h0:∀j,k≤j→j<ds.length→ds[j]?=some 0):Jv (ds.take k)=Jv ds:=by
 obtain⟨m,hm⟩:∃m,ds.length=k+m:=⟨ds.length-k,by omega⟩;induction m generalizing ds with
 |zero=>rw[Ab (by omega)]
 |succ m ih=>
  have hne:ds≠[]:=by intro e;rw[e]at hm;simp at hm
  have hl:ds=ds.take (k+m)++[0]:=by
   apply List.ext_getElem?;intro i;by_cases hi:i<k+m
   · rw[AL (by rw[Ag];omega),AE hi]
   · by_cases hi2:i=k+m
     · subst hi2;rw[AB (by rw[Ag];omega),h0 _ (by omega) (by omega)];simp[List.length_take,hm]
     · rw[Aq (by omega),Aq];simp[List.length_take];omega
  have Qa:(ds.take (k+m)).length=k+m:=by rw[Ag];omega
  have:=ih (ds.take (k+m)) (by omega) (by
   intro j h1 h2;rw[AE (by omega)];exact h0 j h1 (by omega)) Qa
  rw[List.take_take,Cv (by omega)]at this;rw[this];conv=>rhs;rw[hl]
  rw[Yw]
theorem Jpt(ds:List Nat)(k:Nat)(hk:k<ds.length)(hne:ds[k]?≠some 0)(h0:∀j,k<j→j<ds.length→ds[j]?=some 0):Jv ds=ds.take (k+1):=by
 rw[←Jf8 ds (k+1) (by omega) (fun j h1 h2=>h0 j (by omega) h2)];rw[Ca hk];refine Y4 _ ?_;intro e;apply hne;rw[Ae hk,e]
theorem Jlx(ds:List Nat)(h0:∀j,j<ds.length→ds[j]?=some 0):Jv ds=[]:=by
 have:=Jf8 ds 0 (by omega) (fun j _ h=>h0 j h);rw[←this];simp[Jv]
theorem Jh3{B:Nat}:∀ {ds:List Nat},Dig B ds→Dig B (Jv ds)
 |[],h=>h
 |d::ds,h=>by
  by_cases ht:Jv ds=[]
  · rw[J5 ht];split
    · exact Dig.nil B
    · exact Dig.cons h.head (Dig.nil B)
  · rw[Ym ht];exact Dig.cons h.head (Jh3 h.tail)
theorem Xl:∀(ds:List Nat),(Jv ds).length≤ds.length
 |[]=>by simp[Jv]
 |d::ds=>by
  have:=Xl ds;by_cases ht:Jv ds=[]
  · rw[J5 ht];split<;>simp
  · rw[Ym ht];simp;omega
theorem JG{B:Nat}(hB:2≤B){n k:Nat}(h:n<B^k):(Jc B n).length≤k:=by
 induction k generalizing n with
 |zero=>
  have:n=0:=by simp at h;exact h
  rw[this,Jw];simp
 |succ k ih=>
  by_cases hn:n=0
  · rw[hn,Jw];simp
  · rw[Xf hB hn,Al];have:n/B<B^k:=by
     apply Nat.div_lt_of_lt_mul;rw[As,←AK];exact h
    have:=ih this;omega
theorem Jb4{B:Nat}(hB:2≤B){n k:Nat}(h:(Jc B n).length=k+1):B^k≤n:=by
 rcases AC n (B^k)with h1|h1
 · have:=JG hB h1;omega
 · exact h1
theorem Yx{B:Nat}(hB:2≤B){m n:Nat}(h:(Jc B m).length<(Jc B n).length):m<n:=by
 have h1:m<B^(Jc B m).length:=by
  have:=J7 (Jm hB m);rwa[Jl hB]at this
 have h2:B^((Jc B n).length-1)≤n:=Jb4 hB (by omega);have h3:B^(Jc B m).length≤B^((Jc B n).length-1):=Ar (by omega) (by omega);omega
def YP(m n:Nat):Int:=if m<n then -1 else if n<m then 1 else 0
theorem Je2(m:Nat):YP m m=0:=by simp[YP]
theorem Xm{m n:Nat}(h:m<n):YP m n=-1:=by simp[YP,h]
theorem Jbr{m n:Nat}(h:n<m):YP m n=1:=by
 have:¬m<n:=by omega
 simp[YP,h,this]
theorem Jh4{B:Nat}(ds:List Nat)(k:Nat)(hk:k<ds.length):val B ds=val B (ds.take k)+B^k*(ds[k]?.getD 0+B*val B (ds.drop (k+1))):=by
 have h1:ds=ds.take k++(ds[k]?.getD 0::ds.drop (k+1)):=by
  rw[Ae hk];conv=>lhs;rw[←Cf k ds,AV hk]
  rfl
 have h2:(ds.take k).length=k:=by rw[Ag];omega
 conv=>lhs;rw[h1]
 rw[val_append,JX,h2]
theorem Dig.take{B:Nat}{ds:List Nat}(h:Dig B ds)(k:Nat):Dig B (ds.take k):=fun x hx=>h x (Fk hx)
theorem Dig.drop{B:Nat}{ds:List Nat}(h:Dig B ds)(k:Nat):Dig B (ds.drop k):=fun x hx=>h x (List.mem_of_mem_drop hx)
theorem Dig.get{B:Nat}{ds:List Nat}(h:Dig B ds){k:Nat}(hk:k<ds.length):ds[k]?.getD 0<B:=by
 rw[Ae hk];exact h _ (List.getElem_mem hk)
theorem Dig.getD{B:Nat}{ds:List Nat}(h:Dig B ds)(hB:0<B)(k:Nat):ds[k]?.getD 0<B:=by
 rcases AC k ds.length with hk|hk
 · exact h.get hk
 · rw[Aq hk];exact hB
theorem Jc2{B:Nat}{a b:List Nat}(ha:Dig B a)(hl:a.length=b.length)(k:Nat)(hk:k<a.length)(hd:a.drop (k+1)=b.drop (k+1))(h:a[k]?.getD 0<b[k]?.getD 0):val B a<val B b:=by
 rw[Jh4 a k hk,Jh4 b k (by omega),←hd];have h1:=J7 (ha.take k);have h2:(a.take k).length=k:=by rw[Ag];omega
 rw[h2]at h1;have h3:B^k*(a[k]?.getD 0+B*val B (a.drop (k+1)))+B^k≤B^k*(b[k]?.getD 0+B*val B (a.drop (k+1))):=by
  rw[←Nat.mul_succ];exact Ay _ (by omega)
 omega
theorem Jd4{a b:List Nat}(hl:a.length=b.length)(k:Nat)(hk:k<a.length)(hd:a.drop (k+1)=b.drop (k+1))(h:a[k]?.getD 0=b[k]?.getD 0):a.drop k=b.drop k:=by
 rw[AV hk,AV (by omega:k<b.length),hd];rw[Ae hk,Ae (by omega:k<b.length)]at h;exact congrArg (·::_) h
theorem Yp{B:Nat}(hB:2≤B){a b:List Nat}(ha:Dig B a)(hb:Dig B b)(ta:Top a)(tb:Top b)(h:a.length<b.length):val B a<val B b:=by
 apply Yx hB;rw[YO hB ha ta,YO hB hb tb];exact h
theorem Jn(B:Nat)(ds:List Nat)(k:Nat):val B (ds.take (k+1))=val B (ds.take k)+B^k*ds[k]?.getD 0:=by
 rcases AC k ds.length with h|h
 · rw[Ca h,val_append,Ag,Cv (by omega),Ae h];simp[val]
 · rw[Ab (by omega),Ab h,Aq h];simp
theorem Yg(B:Nat)(ds:List Nat)(d:Nat):val B (ds++[d])=val B ds+B^ds.length*d:=by
 rw[val_append];simp[val]
theorem Jdp{B:Nat}(hB:2≤B){ds:List Nat}(h:Dig B ds)(hp:ds=[]∨B^(ds.length-1)≤val B ds):Top ds:=by
 rcases hp with rfl|hp
 · rfl
 · have h1:=Xl ds;rcases AC (Jv ds).length ds.length with hlt|hge
   · have h2:=J7 (Jh3 h);rw[Jc1]at h2;have h3:B^(Jv ds).length≤B^(ds.length-1):=Ar (by omega) (by omega);omega
   · have hl:(Jv ds).length=ds.length:=by omega
     clear h1 hge hp h hB;unfold Top;induction ds with
     |nil=>rfl
     |cons d ds ih=>
      by_cases ht:Jv ds=[]
      · rw[J5 ht]at hl ⊢;by_cases hd:d=0
        · rw[if_pos hd]at hl;simp at hl
        · rw[if_neg hd]at hl ⊢;simp at hl;rw[hl]
      · rw[Ym ht]at hl ⊢;rw[ih (by simpa using hl)]
theorem Jpu{B:Nat}(acc:List Nat)(c s A:Nat)(h:val B acc+B^acc.length*c=A):val B (acc++[(c+s)%B])+B^(acc.length+1)*((c+s)/B)=A+B^acc.length*s:=by
 rw[Yg,AK,Au,CG,←Av,Nat.mod_add_div,Av];omega
theorem YQ{B:Nat}(hB:2≤B){n k:Nat}(h:(Jc B n).length=k)(hk:k≠0):B^(k-1)≤n:=Jb4 hB (by omega)
theorem Jpv{B:Nat}(hB:2≤B){m n:Nat}{acc:List Nat}(hd:Dig B acc)(hv:val B acc=m+n)
(hl:acc.length≤max (Jc B m).length (Jc B n).length∨B^(acc.length-1)≤val B acc)(hle:max (Jc B m).length (Jc B n).length≤acc.length):acc=Jc B (m+n):=by
 rw[←hv];refine(YO hB hd (Jdp hB hd ?_)).symm;by_cases h0:acc.length=0
 · exact Or.inl (Ao h0)
 · right
   rcases hl with hl|hl
   · have hm:acc.length=max (Jc B m).length (Jc B n).length:=by omega
     rcases Nat.le_total (Jc B m).length (Jc B n).length with h|h
     · have:=YQ hB (n:=n) (k:=acc.length) (by omega) h0;omega
     · have:=YQ hB (n:=m) (k:=acc.length) (by omega) h0;omega
   · exact hl
def chr(d:Nat):UInt8:=UInt8.ofNat (48+d)
def txt(ds:List Nat):List UInt8:=(ds.map chr).reverse
def YY(n:Nat):List UInt8:=if n=0 then [48]else txt (Jc 10 n)
def YC(z:Int):List UInt8:=if z<0 then 45::YY z.natAbs else YY z.natAbs
theorem Jf9(ds:List Nat)(d:Nat):txt (ds++[d])=chr d::txt ds:=by simp[txt]
theorem Jga(ds:List Nat):(txt ds).length=ds.length:=by simp[txt]
def Xn(ds:List Nat)(i k n:Nat)(D:List Nat):Prop:=
 D.length=4*i+k∧Dig 10 D∧k≤4∧n=ds[i]?.getD 0/10^k∧val 10 D+10^(4*i+k)*n=val 10000 (ds.take i)+10000^i*ds[i]?.getD 0∧(i+1<ds.length∨k=0∨10^(k-1)≤ds[i]?.getD 0)
theorem Jt0(i:Nat):(10:Nat)^(4*i)=10000^i:=by rw[Nat.pow_mul]
theorem Xn.start{ds:List Nat}{i:Nat}{D:List Nat}(hl:D.length=4*i)(hd:Dig 10 D)(hv:val 10 D=val 10000 (ds.take i)):Xn ds i 0 (ds[i]?.getD 0) D:=by
 refine⟨by omega,hd,by omega,by simp,?_,Or.inr (Or.inl rfl)⟩;rw[Cd,Jt0,hv]
theorem Xn.step{ds:List Nat}{i k n:Nat}{D:List Nat}(h:Xn ds i k n D)(hk:k<4)(hgo:0<n∨i+1<ds.length):Xn ds i (k+1) (n/10) (D++[n%10]):=by
 obtain⟨h1,h2,h3,h4,h5,h6⟩:=h;refine⟨by simp;omega,h2.append (Dig.cons (A4 _ (by omega)) (Dig.nil _)),by omega,?_,?_,?_⟩
 · rw[h4,Nat.div_div_eq_div_mul,←AK]
 · rw[Yg,h1,←h5,CG (4*i) k 1 |>.symm,AK,Au,CG,←Av,Nat.mod_add_div]
 · rcases hgo with h|h
   · right;right
     rw[Nat.add_sub_cancel];rw[h4]at h;have:=Nat.div_pos_iff.1 h;exact this.2
   · exact Or.inl h
theorem Xn.next{ds:List Nat}{i n:Nat}{D:List Nat}(h:Xn ds i 4 n D)(hd:Dig 10000 ds):D.length=4*(i+1)∧Dig 10 D∧val 10 D=val 10000 (ds.take (i+1)):=by
 obtain⟨h1,h2,h3,h4,h5,h6⟩:=h;have h7:=hd.getD (by omega) i;have h0:n=0:=by rw[h4];exact Ci (by simpa using h7)
 subst h0;refine⟨by omega,h2,?_⟩;rw[Jn,←h5];simp
theorem Xn.last{ds:List Nat}{i k:Nat}{D:List Nat}(h:Xn ds i k 0 D)(hi:i+1=ds.length):D.length≤4*ds.length∧Dig 10 D∧val 10 D=val 10000 ds∧(val 10000 ds≠0→Top ds→D=Jc 10 (val 10000 ds)):=by
 obtain⟨h1,h2,h3,h4,h5,h6⟩:=h;have e:val 10 D=val 10000 ds:=by
  have:=Jn 10000 ds i;rw[Ab (by omega)]at this;rw[this,←h5];simp
 refine⟨by omega,h2,e,fun hn ht=>?_⟩;rw[←e];refine(YO (by omega) h2 (Jdp (by omega) h2 ?_)).symm;have hne:ds[i]?.getD 0≠0:=by
  intro h0;have h8:ds=ds.take i++[0]:=by
   conv=>lhs;rw[←Cf i ds,AV (by omega:i<ds.length)]
   rw[AG (by omega)];rw[Ae (by omega)]at h0;have h0':ds[i]=0:=h0;rw[h0']
  have h9:(Jv ds).length≤i:=by
   rw[h8,Yw];have:=Xl (ds.take i);rw[Ag]at this;omega
  rw[ht]at h9;omega
 right
 rw[h1,e];have hk0:k≠0:=by
  intro hk;subst hk;simp at h4;omega
 rcases h6 with h6|h6|h6
 · omega
 · omega
 · have:=Jn 10000 ds i;rw[Ab (by omega)]at this;rw[this];have Qa:(10:Nat)^(4*i+k-1)=10000^i*10^(k-1):=by
    rw[←Jt0,←CF];congr 1;omega
   rw[Qa];have:=Ay (10000^i) h6;omega
theorem Jd5{n:Nat}(h:n≠0):YY n=txt (Jc 10 n):=by simp[YY,h]
def isD(c:UInt8):Bool:=decide (48≤c.toNat)&&decide (c.toNat≤57)
def dgs(l:List UInt8):List Nat:=(l.map (fun c=>c.toNat-48)).reverse
def num(l:List UInt8):Nat:=val 10 (dgs l)
def JJ(l:List UInt8):List UInt8:=if l.head?=some 45 then l.tail else l
def good(l:List UInt8):Bool:=decide (l.length≤2000) && !(JJ l).isEmpty&&(!decide ((JJ l).head?=some 48) || decide (l=[48]))&&(JJ l).all isD
def Yz(l:List UInt8):Int:=if l.head?=some 45 then -(num (JJ l):Int)else num (JJ l)
theorem YA{c:UInt8}(h:isD c=true):48≤c.toNat∧c.toNat≤57:=by simpa[isD]using h
theorem XE{d:Nat}(h:d<10):(chr d).toNat=48+d:=by
 unfold chr;rw[UInt8.toNat_ofNat'];omega
theorem Jt1{c:UInt8}(h:isD c=true):chr (c.toNat-48)=c:=by
 have hb:=YA h;apply UInt8.toNat_inj.1;rw[XE (by omega)];omega
theorem Jpw(l:List UInt8)(c:UInt8):dgs (l++[c])=(c.toNat-48)::dgs l:=by simp[dgs]
theorem Jgb(l:List UInt8)(c:UInt8):num (l++[c])=(c.toNat-48)+10*num l:=by rw[num,Jpw,JX];rfl
theorem Jly(a b:List UInt8):dgs (a++b)=dgs b++dgs a:=by simp[dgs]
theorem Jad(l:List UInt8):(dgs l).length=l.length:=by simp[dgs]
theorem XF(a b:List UInt8):num (a++b)=num b+10^b.length*num a:=by rw[num,Jly,val_append,Jad];rfl
theorem Jfr{l:List UInt8}(h:l.all isD=true):Dig 10 (dgs l):=by
 intro d hd;simp only[dgs,List.mem_reverse,Fb]at hd;obtain⟨c,hc,rfl⟩:=hd;have:=YA (A3.1 h c hc);omega
theorem Jsd{l:List UInt8}(h:l.all isD=true):txt (dgs l)=l:=by
 simp only[txt,dgs,List.map_reverse,List.reverse_reverse,List.map_map];conv=>rhs;rw[←List.map_id l]
 apply List.map_congr_left;intro c hc;exact Jt1 (A3.1 h c hc)
theorem Jse{c:UInt8}{l:List UInt8}(hc:isD c=true)(h0:c≠48):Top (dgs (c::l)):=by
 have e:dgs (c::l)=dgs l++[c.toNat-48]:=by simp[dgs]
 rw[e];refine Y4 _ ?_;have:=YA hc;intro h;apply h0;apply UInt8.toNat_inj.1;show c.toNat=48;omega
theorem Jgc{c:UInt8}{l:List UInt8}(h:(c::l).all isD=true)(h0:c≠48):YY (num (c::l))=c::l∧num (c::l)≠0:=by
 have hc:isD c=true:=A3.1 h c (CA ..);have e:=YO (B:=10) (by omega) (Jfr h) (Jse hc h0);have Qa:num (c::l)≠0:=by
  intro hz;rw[show val 10 (dgs (c::l))=0 from hz,Jw]at e;have:=congrArg List.length e;rw[Jad]at this;simp at this
 refine⟨?_,Qa⟩;rw[Jd5 Qa,num,e,Jsd h]
theorem Jjy{l:List UInt8}(h:good l=true):YC (Yz l)=l:=by
 simp only[good,AD,decide_eq_true_eq,CO,Cl,decide_eq_false_iff_not]at h;obtain⟨⟨⟨_,hne⟩,hz⟩,hd⟩:=h;cases ht:JJ l with
 |nil=>rw[ht]at hne;simp at hne
 |cons c t=>
  rw[ht]at hz hd;by_cases h0:c=48
  · have hl:l=[48]:=by
     rcases hz with h|h
     · exact absurd (by rw[h0];rfl) h
     · exact h
    subst hl;simp[Yz,JJ,YC,YY,num,dgs,val]
  · obtain⟨h1,h2⟩:=Jgc hd h0;by_cases hm:l.head?=some 45
    · have hl:l=45::c::t:=by
       cases l with
       |nil=>simp at hm
       |cons x l'=>
        simp at hm;subst hm;simp[JJ]at ht;rw[ht]
      rw[Yz,if_pos hm,ht,YC,if_pos (by omega),C9,Ch,h1,hl]
    · have hl:l=c::t:=by rw[←ht,JJ,if_neg hm]
      rw[Yz,if_neg hm,ht,YC,if_neg (by omega),Ch,h1,hl]
theorem Jsf{ds:List Nat}(h:Dig 10 ds):(txt ds).all isD=true:=by
 rw[A3];intro c hc;simp only[txt,List.mem_reverse,Fb]at hc;obtain⟨d,hd,rfl⟩:=hc;have:=h d hd;simp[isD,XE this];omega
theorem Jsg{ds:List Nat}(h:Dig 10 ds):num (txt ds)=val 10 ds:=by
 have e:dgs (txt ds)=ds:=by
  simp only[txt,dgs,List.map_reverse,List.reverse_reverse,List.map_map];conv=>rhs;rw[←List.map_id ds]
  apply List.map_congr_left;intro d hd;have:=h d hd;simp[XE this]
 rw[num,e]
theorem Jc3{n:Nat}(hn:n≠0):∃c t,YY n=c::t∧c≠48∧c≠45∧(c::t).all isD=true∧num (c::t)=n:=by
 have hd:=Jm (B:=10) (by omega) n;have ht:=Ya (B:=10) (by omega) n;have hv:=Jl (B:=10) (by omega) n;have Qb:Jc 10 n≠[]:=by rw[Ne,JC (by omega)];exact hn
 have ha:=Jsf hd;have hm:=Jsg hd;have e:YY n=txt (Jc 10 n):=Jd5 hn;rw[hv]at hm;obtain⟨ds,d,hds⟩:∃ds d,Jc 10 n=ds++[d]:=⟨_,_,(List.dropLast_concat_getLast Qb).symm⟩;rw[hds]at ha hm e ht hd;rw[Jf9]at ha hm e;have hd0:d≠0:=by
  intro h0;subst h0;have h1:(Jv (ds++[0])).length≤ds.length:=by rw[Yw];exact Xl ds
  rw[ht]at h1;simp at h1;omega
 have Qa:d<10:=hd d (by simp);have hc:=XE Qa;refine⟨chr d,txt ds,e,?_,?_,ha,hm⟩
 · intro h;rw[h]at hc;have:(48:UInt8).toNat=48:=rfl;omega
 · intro h;rw[h]at hc;have:(45:UInt8).toNat=45:=rfl;omega
theorem Jpx{z:Int}(h:(YC z).length≤2000):good (YC z)=true∧Yz (YC z)=z:=by
 by_cases hz:z.natAbs=0
 · have:z=0:=by omega
   subst this;simp[YC,YY,good,Yz,JJ,num,dgs,val,isD]
 · obtain⟨c,t,e,h48,h45,ha,hm⟩:=Jc3 hz;by_cases hn:z<0
   · have e2:YC z=45::c::t:=by rw[YC,if_pos hn,e]
     rw[e2]at h ⊢;refine⟨?_,?_⟩
     · simp only[good,JJ,List.head?_cons,if_pos,List.tail_cons,ha,List.isEmpty_cons,Bool.and_true,AD,decide_eq_true_eq,Bool.not_false,CO,Cl,decide_eq_false_iff_not,Ak];exact⟨h,Or.inl h48⟩
     · simp only[Yz,JJ,List.head?_cons,if_pos,List.tail_cons,hm];omega
   · have e2:YC z=c::t:=by rw[YC,if_neg hn,e]
     rw[e2]at h ⊢;have hh:¬((c::t).head?=some 45):=by simp[h45]
     refine⟨?_,?_⟩
     · have ht:JJ (c::t)=c::t:=by rw[JJ,if_neg hh]
       rw[good,ht];simp only[ha,List.isEmpty_cons,Bool.and_true,AD,decide_eq_true_eq,Bool.not_false,CO,Cl,decide_eq_false_iff_not,List.head?_cons,Ak];exact⟨h,Or.inl h48⟩
     · rw[Yz,if_neg hh,JJ,if_neg hh,hm];omega
theorem Jb8{B n:Nat}(hB:10≤B):(Jc B n).length≤(Jc 10 n).length:=by
 refine JG (by omega) ?_;have h:=J7 (Jm (B:=10) (by omega) n);rw[Jl (by omega)]at h;exact AA h (C8 hB _)
theorem Jn3{l:List UInt8}(h:good l=true){B:Nat}(hB:10≤B):(Jc B (Yz l).natAbs).length≤2000:=by
 have e:=Jjy h;have hl:l.length≤2000:=by
  simp only[good,AD,decide_eq_true_eq]at h;exact h.1.1.1
 rw[←e]at hl;refine Aw (Jb8 hB) ?_;by_cases hz:(Yz l).natAbs=0
 · rw[hz,Jw];simp
 · have h3:(YY (Yz l).natAbs).length=(Jc 10 (Yz l).natAbs).length:=by rw[Jd5 hz,Jga]
   unfold YC at hl;split at hl
   · simp at hl;omega
   · omega
def Y1(f:UInt8→Bool)(l:List UInt8)(i:Nat):Nat:=i+((l.drop i).takeWhile f).length
def skB(l:List UInt8)(i:Nat):Nat:=Y1 (·==32) l i
def dgE(l:List UInt8)(i:Nat):Nat:=Y1 isD l i
theorem Jhp{f:UInt8→Bool}{l:List UInt8}{n:Nat}(hn:n≤l.length)(h1:∀k (h:k<n),f l[k]=true)(h2:∀h:n<l.length,f l[n]=false):(l.takeWhile f).length=n:=by
 induction l generalizing n with
 |nil=>simp at hn ⊢;omega
 |cons c t ih=>
  cases n with
  |zero=>
   have:=h2 (by simp);simp at this;rw[List.takeWhile_cons_of_neg (by simp[this])];rfl
  |succ n=>
   have:=h1 0 (by omega);simp at this;rw[List.takeWhile_cons_of_pos this,Al,ih (n:=n) (by simpa using hn) (fun k hk=>h1 (k+1) (by omega)) (fun hk=>h2 (by simpa using hk))]
theorem Jd6{f:UInt8→Bool}{l:List UInt8}{i j:Nat}(hi:i≤j)(hj:j≤l.length)(h1:∀k (h:k<l.length),i≤k→k<j→f l[k]=true)(h2:∀h:j<l.length,f l[j]=false):Y1 f l i=j:=by
 unfold Y1;rw[Jhp (n:=j-i) (by rw[AF];omega)]
 · omega
 · intro k hk;rw[CT];exact h1 _ _ (by omega) (by omega)
 · intro hk;rw[CT];rw[AF]at hk;have e:i+(j-i)=j:=by omega
   have:=h2 (by omega);simp only[e];exact this
theorem Jae(f:UInt8→Bool)(l:List UInt8):(l.takeWhile f).length≤l.length∧(∀k (h:k<l.length),k<(l.takeWhile f).length→f l[k]=true)∧∀h:(l.takeWhile f).length<l.length,f (l[(l.takeWhile f).length]'h)=false:=by
 induction l with
 |nil=>simp
 |cons c t ih=>
  by_cases hc:f c=true
  · rw[List.takeWhile_cons_of_pos hc];refine⟨by simp only[Al];omega,fun k hk h=>?_,fun h=>?_⟩
    · cases k with
      |zero=>simpa using hc
      |succ k=>simpa using ih.2.1 k (by simpa using hk) (by simpa using h)
    · simp only[Al,List.getElem_cons_succ];exact ih.2.2 (by simpa using h)
  · rw[List.takeWhile_cons_of_neg (by simpa using hc)];refine⟨by simp,fun k hk h=>by simp at h,fun h=>by simpa using hc⟩
theorem Jgd(f:UInt8→Bool)(l:List UInt8)(i:Nat):i≤Y1 f l i:=Nat.le_add_right _ _
theorem Jge{f:UInt8→Bool}{l:List UInt8}{i:Nat}(hi:i≤l.length):Y1 f l i≤l.length:=by
 have:=(Jae f (l.drop i)).1;rw[AF]at this;unfold Y1;omega
theorem Jpy{f:UInt8→Bool}{l:List UInt8}{i k:Nat}(h1:i≤k)(h2:k<Y1 f l i)(h:k<l.length):f l[k]=true:=by
 have:=(Jae f (l.drop i)).2.1 (k-i) (by rw[AF];omega) (by unfold Y1 at h2;omega);rw[CT]at this;have e:i+(k-i)=k:=by omega
 simpa only[e]using this
theorem Jgf{f:UInt8→Bool}{l:List UInt8}{i:Nat}(h:Y1 f l i<l.length):f (l[Y1 f l i]'h)=false:=by
 have h0:((l.drop i).takeWhile f).length<(l.drop i).length:=by
  rw[AF];unfold Y1 at h;omega
 have:=(Jae f (l.drop i)).2.2 h0;rw[CT]at this;exact this
theorem Jlz(f:UInt8→Bool)(l:List UInt8)(i:Nat):Y1 f l (Y1 f l i)=Y1 f l i:=by
 rcases AC (Y1 f l i) l.length with h|h
 · exact Jd6 (Aa _) (by omega) (fun k _ h1 h2=>by omega) (fun h'=>Jgf h')
 · unfold Y1;rw[show i+((l.drop i).takeWhile f).length=Y1 f l i from rfl,AG h];rfl
def JL(l:List UInt8)(j:Nat)(c:UInt8):Bool:=l[j]?==some c
inductive Rd(α:Type)
 |bad(e:Nat)(at_:Nat)
 |ok(a:α)(k:Nat)
def JP(l:List UInt8)(i:Nat):Rd (List UInt8 × Nat):=
 if dgE l (skB l i)=skB l i then .bad 2 (skB l i)
 else if 12<dgE l (skB l i)-skB l i then .bad 3 (skB l i)
 else .ok (((l.drop (skB l i)).take (dgE l (skB l i)-skB l i)),skB l i) (dgE l (skB l i))
def J9(l:List UInt8)(i:Nat):Rd Rat:=
 match JP l i with
 |.bad e p=>.bad e p
 |.ok (ds,_) k=>
  if JL l (skB l k) 47 then
   match JP l (skB l k+1)with
   |.bad e p=>.bad e p
   |.ok (es,p) m=>if num es=0 then .bad 4 p else .ok (Rat.divInt (num ds) (num es)) m
  else .ok ((num ds:Int):Rat) (skB l k)
def XG(l:List UInt8)(i:Nat):Rd Nat:=
 if JL l (skB l i) 94 then
  match JP l (skB l i+1)with
  |.bad e p=>.bad e p
  |.ok (ds,p) k=>if 8<num ds then .bad 3 p else .ok (num ds) k
 else .ok 1 (skB l i)
def Ja7(l:List UInt8)(j:Nat):Bool:=(l[j]?.map isD).getD false
def JR(l:List UInt8)(i:Nat):Rd (Rat × Nat):=
 if Ja7 l (skB l i)then
  match J9 l (skB l i)with
  |.bad e p=>.bad e p
  |.ok c k=>
   if JL l (skB l k) 120 then
    match XG l (skB l k+1)with
    |.bad e p=>.bad e p
    |.ok n m=>.ok (c,n) m
   else .ok (c,0) (skB l k)
 else if JL l (skB l i) 120 then
  match XG l (skB l i+1)with
  |.bad e p=>.bad e p
  |.ok n m=>.ok (1,n) m
 else .bad 2 (skB l i)
def X3(l:List UInt8):Nat→Bool→Nat→List Rat→Rd (List Rat)
 |0,_,i,_=>.bad 0 i
 |f+1,minus,i,s=>
  match JR l i with
  |.bad e p=>.bad e p
  |.ok (c,n) k=>
   let s':=s.set n (if minus then cf s n-c else cf s n+c)
   if JL l (skB l k) 43 then X3 l f false (skB l k+1) s'
   else if JL l (skB l k) 45 then X3 l f true (skB l k+1) s'
   else if skB l k=l.length then .ok s' (skB l k)
   else .bad 2 (skB l k)
def JT(l:List UInt8):List Rat × Nat × Nat:=
 if 300<l.length then([],1,0)
 else
  match (if JL l (skB l 0) 45 then X3 l (l.length+1) true (skB l 0+1) (List.replicate 9 0)else X3 l (l.length+1) false (skB l 0) (List.replicate 9 0))with
  |.bad e p=>([],e,p)
  |.ok s _=>(Jh s,0,0)
theorem Jbs{l:List UInt8}{i p k:Nat}{ds:List UInt8}(hi:i≤l.length)(h:JP l i=.ok (ds,p) k):p=skB l i∧k=dgE l p∧i≤p∧p<k∧k≤l.length∧k-p≤12∧ds=(l.drop p).take (k-p)∧ds.length=k-p∧ds.all isD=true:=by
 unfold JP at h;split at h
 · cases h
 · split at h
   · cases h
   · rename_i h1 h2;simp only[Rd.ok.injEq,Prod.mk.injEq]at h;obtain⟨⟨rfl,rfl⟩,rfl⟩:=h;have hs:skB l i≤l.length:=Jge hi;have h3:skB l i≤dgE l (skB l i):=Jgd _ _ _;have h4:dgE l (skB l i)≤l.length:=Jge hs;have Qa:((l.drop (skB l i)).take (dgE l (skB l i)-skB l i)).length=dgE l (skB l i)-skB l i:=by rw[Ag,AF];omega
     refine⟨rfl,rfl,Jgd _ _ _,by omega,h4,by omega,rfl,Qa,?_⟩;rw[A3];intro c hc;obtain⟨n,hn,rfl⟩:=List.mem_iff_getElem.1 hc;rw[Qa]at hn;rw[List.getElem_take,CT];exact Jpy (f:=isD) (i:=skB l i) (by omega) (by show _<dgE l (skB l i);omega) (by omega)
theorem Ji3{l:List UInt8}{i p k:Nat}{ds:List UInt8}(hi:i≤l.length)(h:JP l i=.ok (ds,p) k):i<k∧k≤l.length:=by
 have:=Jbs hi h;omega
theorem JZ{l:List UInt8}{j:Nat}{c:UInt8}(h:JL l j c=true):j<l.length:=by
 unfold JL at h;rcases AC j l.length with h1|h1
 · exact h1
 · rw[Aq h1]at h;simp at h
theorem Yj{l:List UInt8}{i:Nat}(hi:i≤l.length):skB l i≤l.length:=Jge hi
theorem Jbt(l:List UInt8)(i:Nat):i≤skB l i:=Jgd _ _ _
theorem Jjz{l:List UInt8}{i k:Nat}{c:Rat}(hi:i≤l.length)(h:J9 l i=.ok c k):i<k∧k≤l.length:=by
 unfold J9 at h;split at h
 · cases h
 · rename_i ds p k' h1;have h2:=Ji3 hi h1;have h3:=Jbt l k';have h4:=Yj h2.2;split at h
   · rename_i h5;have h5:=JZ h5;split at h
     · cases h
     · rename_i es p' m h6;have h7:=Ji3 (by omega) h6;split at h
       · cases h
       · cases h;omega
   · cases h;omega
theorem Jm5{l:List UInt8}{i k n:Nat}(hi:i≤l.length)(h:XG l i=.ok n k):i≤k∧k≤l.length∧n≤8:=by
 unfold XG at h;have h3:=Jbt l i;have h4:=Yj hi;split at h
 · rename_i h5;have h5:=JZ h5;split at h
   · cases h
   · rename_i es p' m h6;have h7:=Ji3 (by omega) h6;split at h
     · cases h
     · cases h;omega
 · cases h;omega
theorem Jb9{l:List UInt8}{i k n:Nat}{c:Rat}(hi:i≤l.length)(h:JR l i=.ok (c,n) k):i<k∧k≤l.length∧n≤8:=by
 unfold JR at h;have h3:=Jbt l i;have h4:=Yj hi;split at h
 · split at h
   · cases h
   · rename_i c' k' h1;have h2:=Jjz h4 h1;have h5:=Jbt l k';have h6:=Yj h2.2;split at h
     · rename_i h7;have h7:=JZ h7;split at h
       · cases h
       · rename_i n' m h8;have h9:=Jm5 (by omega) h8;cases h;omega
     · cases h;omega
 · split at h
   · rename_i h7;have h7:=JZ h7;split at h
     · cases h
     · rename_i n' m h8;have h9:=Jm5 (by omega) h8;cases h;omega
   · cases h
def Jd7(u u1 d1 d0 q r:Nat):Prop:=
 q*d1+r=u∧(u*4294967296+u1)/(d1*4294967296+d0)≤q∧q≤4294967297∧r<4294967296
theorem Jfa{u u1 d1 d0:Nat}(h1:2147483648≤d1)(h1':d1<4294967296)(h0:d0<4294967296)(hu1:u1<4294967296)(hu:u<d1*4294967296+d0):
 Jd7 u u1 d1 d0 (u/d1) (u%d1):=by
 have hm:=A8 u d1;have hr:u%d1<d1:=A4 _ (by omega);have hc:d1*(u/d1)=u/d1*d1:=As _ _;refine⟨by omega,?_,?_,by omega⟩
 · apply CM;rw[AP (by omega)];have h3:(u/d1+1)*(d1*4294967296+d0)=u/d1*d1*4294967296+d1*4294967296+(u/d1+1)*d0:=by
    rw[Av,←Au,AZ (u/d1) 1 d1,CK,AZ (u/d1*d1) d1]
   rw[Nat.succ_eq_add_one,h3];generalize u/d1*d1=p at *;generalize (u/d1+1)*d0=z;omega
 · apply CM;rw[AP (by omega)];omega
theorem Jgg{u u1 d1 d0 q r:Nat}(h:Jd7 u u1 d1 d0 q r)(hd:0<d1)(hc:q*d0≤4294967296*r+u1):q=(u*4294967296+u1)/(d1*4294967296+d0):=by
 obtain⟨h1,h2,_,_⟩:=h;apply Nat.le_antisymm _ h2;rw[C4 (by omega),Av,←Au];generalize q*d1=p at *;generalize q*d0=z at *;omega
theorem Jgh{u u1 d1 d0 q r:Nat}(h:Jd7 u u1 d1 d0 q r)(hd:2147483648≤d1)(hu1:u1<4294967296)(hu:u<d1*4294967296+d0)(hc:4294967296≤q∨4294967296*r+u1<q*d0):
 1≤q∧(q-1)*d1+(r+d1)=u∧(u*4294967296+u1)/(d1*4294967296+d0)≤q-1∧q-1≤4294967296:=by
 obtain⟨h1,h2,h3,h4⟩:=h;have hq:1≤q:=by
  rcases hc with hc|hc
  · omega
  · rcases AQ q with h0|h0
    · rw[h0]at hc;omega
    · exact h0
 have e:(q-1)*d1+d1=q*d1:=by
  conv=>rhs;rw[show q=q-1+1 from by omega,AZ,CK]
 refine⟨hq,by omega,?_,by omega⟩;apply CM;rw[Nat.succ_eq_add_one,Nat.sub_add_cancel hq,AP (by omega)];rcases hc with hc|hc
 · have h5:4294967296*(d1*4294967296+d0)≤q*(d1*4294967296+d0):=Am _ hc;omega
 · rw[Av,←Au];generalize q*d1=p at *;generalize q*d0=z at *;omega
theorem Jao{u u1 d1 d0 q r:Nat}(h1:q*d1+r=u)(h2:(u*4294967296+u1)/(d1*4294967296+d0)≤q)(h3:q≤4294967296)(h0:d0<4294967296)(hd:0<d1)(hr:4294967296≤r):q=(u*4294967296+u1)/(d1*4294967296+d0):=by
 apply Nat.le_antisymm _ h2;rw[C4 (by omega),Av,←Au];have h5:q*d0≤4294967296*d0:=Am _ h3;generalize q*d1=p at *;generalize q*d0=z at *;omega
theorem Jpz{t k un0 d:Nat}(h0:0<d):t/d*k+(t%d*k+un0)/d=(t*k+un0)/d∧(t%d*k+un0)%d=(t*k+un0)%d:=by
 have hm:=A8 t d;have e:t*k+un0=d*(t/d*k)+(t%d*k+un0):=by
  conv=>lhs;rw[←hm,AZ,Au]
  omega
 rw[e,Nat.mul_add_div h0,Nat.mul_add_mod];exact⟨rfl,rfl⟩
theorem Jn4{a y s:Nat}:(a*2^s)/(y*2^s)=a/y∧(a*2^s)%(y*2^s)=a%y*2^s:=
 ⟨Nat.mul_div_mul_right _ _ (A9 s),Nat.mul_mod_mul_right _ _ _⟩
def Ji4(B u u1 d1 d0 q r:Nat):Prop:=
 q*d1+r=u∧(u*B+u1)/(d1*B+d0)≤q∧q<B∧r<B
theorem Ji5{B u u1 d1 d0:Nat}(h1:0<d1)(hd:d1<B)(hu1:u1<B)(hu:u<d1*B):Ji4 B u u1 d1 d0 (u/d1) (u%d1):=by
 have hm:=A8 u d1;have hr:u%d1<d1:=A4 _ h1;have hc:d1*(u/d1)=u/d1*d1:=As _ _;have hp:0<d1*B:=Nat.mul_pos h1 (by omega);refine⟨by omega,?_,?_,by omega⟩
 · apply CM;rw[AP (by omega),Nat.succ_eq_add_one];have h3:(u/d1+1)*(d1*B+d0)=(u/d1*d1+d1)*B+(u/d1+1)*d0:=by grind
   rw[h3];have h4:(u+1)*B≤(u/d1*d1+d1)*B:=Am _ (by omega);rw[AZ,CK]at h4;generalize (u/d1+1)*d0=z;omega
 · rw[AP h1,As];exact hu
theorem Jca{B u u1 d1 d0 q r:Nat}(h1:q*d1+r=u)(h2:(u*B+u1)/(d1*B+d0)≤q)(hd:0<d1*B)(hc:q*d0≤r*B+u1):q=(u*B+u1)/(d1*B+d0):=by
 apply Nat.le_antisymm _ h2;rw[C4 (by omega),Av,←Au,←h1,AZ];omega
theorem Jj0{B u u1 d1 d0 q r:Nat}(h:Ji4 B u u1 d1 d0 q r)(hd:0<d1*B)(hc:r*B+u1<q*d0):
 1≤q∧(q-1)*d1+(r+d1)=u∧(u*B+u1)/(d1*B+d0)≤q-1∧q-1<B:=by
 obtain⟨h1,h2,h3,h4⟩:=h;have hq:1≤q:=by
  rcases AQ q with h0|h0
  · rw[h0]at hc;omega
  · exact h0
 have e:(q-1)*d1+d1=q*d1:=by
  rw[←Nat.succ_mul];congr 1;omega
 refine⟨hq,by omega,?_,by omega⟩;apply CM;rw[Nat.succ_eq_add_one,Nat.sub_add_cancel hq,AP (by omega),Av,←Au,←h1,AZ];omega
theorem Ji6{B u u1 d1 d0 q r:Nat}(h1:q*d1+r=u)(h2:(u*B+u1)/(d1*B+d0)≤q)(h3:q<B)(h0:d0<B)(hd:0<d1*B)(hr:B≤r):q=(u*B+u1)/(d1*B+d0):=by
 apply Jca h1 h2 hd;have h4:q*d0≤B*d0:=Am _ (by omega);have h5:B*d0≤B*B:=Ay _ (by omega);have h6:B*B≤r*B:=Am _ hr;omega
def Jhq(R V g:Nat):Prop:=R<(g+1)*V∧g*V≤R+V
theorem Jl0{T V2 E lo lo2 R V:Nat}(hR:R=T*E+lo)(hV:V=V2*E+lo2)(h1:lo<E)(h2:lo2<E)(hw:T/V2≤V2)(h0:0<V2):Jhq R V (T/V2):=by
 have hm:=A8 T V2;have hr:=A4 T h0;generalize T/V2=g at *;generalize T%V2=t at *;have a1:(T+1)*E≤(V2*g+V2)*E:=Am _ (by omega);have a2:(g+1)*V=(V2*g+V2)*E+(g+1)*lo2:=by rw[hV];grind
 have a3:g*lo2≤g*E:=Ay _ (by omega);have a4:(V2*g+g)*E≤(T+V2)*E:=Am _ (by omega);have a5:g*V=V2*g*E+g*lo2:=by rw[hV];grind
 rw[AZ]at a1 a4;refine⟨?_,?_⟩
 · rw[a2,hR];generalize (g+1)*lo2=z;omega
 · rw[a5,hR,hV];rw[AZ]at a4;omega
theorem Jp0{B d1 E lo lo2 R V:Nat}(hR:R=d1*(B*E)+lo)(hV:V=d1*E+lo2)(h2:lo2<E)(hd:B≤2*d1)(hRV:R<V*B)(hB:2≤B):Jhq R V (B-1):=by
 refine⟨by rw[Nat.sub_add_cancel (by omega),As];exact hRV,?_⟩;obtain⟨c,rfl⟩:∃c,B=c+2:=⟨B-2,by omega⟩;rw[show c+2-1=c+1 from by omega,AZ,CK];apply Nat.add_le_add_right;rw[hR,hV,Av];have a1:c*lo2≤c*E:=Ay _ (by omega);have a2:c*E≤2*d1*E:=Am _ (by omega);have a3:d1*((c+2)*E)=c*(d1*E)+2*d1*E:=by grind
 omega
theorem Jn5{R V g q:Nat}(h:Jhq R V g)(hq:q+V*g=R):g=R/V∧q=R%V:=by
 have hg:g*V=V*g:=As _ _;have h1:=h.1;rw[AZ,CK]at h1;have Qa:q<V:=by omega
 rw[←hq];exact⟨by rw[CR _ _ (by omega),Ci Qa,Cc],by rw[CE,Cn Qa]⟩
theorem Jn6{R V g q P q2 c2:Nat}(h:Jhq R V g)(hq:q+V*g=R+P)(hqP:q<P)(hq2:q2+P*c2=q+V)(hq2P:q2<P)(hc2:c2≤1):1≤g∧g-1=R/V∧q2=R%V:=by
 have h2:=h.2;have hg:g*V=V*g:=As _ _;have Qb:1≤g:=by
  rcases AQ g with h0|h0
  · rw[h0]at hq;omega
  · exact h0
 have e:V*(g-1)+V=V*g:=by rw[←Nat.mul_succ];congr 1;omega
 have hc:c2=1:=by
  rcases(by omega:c2=0∨c2=1)with h0|h0
  · subst h0;omega
  · exact h0
 subst hc;have hR:q2+V*(g-1)=R:=by omega
 have Qa:q2<V:=by omega
 rw[←hR];exact⟨Qb,by rw[CR _ _ (by omega),Ci Qa,Cc],by rw[CE,Cn Qa]⟩
def YR(x y:Nat):Nat:=(x-y)+(y-x)
def Jb5(H L:Nat)(s:Int)(h l na nb xa xb:Nat):Prop:=
 (s=1∨s=-1)∧H=nb*l+xb*h∧L=na*l+xa*h∧(na:Int)*xb-nb*xa=s∧xa≤xb∧na+xa≤nb+xb∧1≤xb∧l≤h
theorem Jb5.start{H L:Nat}(h:L≤H):Jb5 H L 1 H L 1 0 0 1:=
 ⟨Or.inl rfl,by omega,by omega,by omega,by omega,by omega,by omega,h⟩
theorem Jb5.step{H L h l na nb xa xb:Nat}{s:Int}(hs:Jb5 H L s h l na nb xa xb)(hl:1≤l):
 Jb5 H L (-s) l (h%l) xa xb (na+h/l*xa) (nb+h/l*xb):=by
 obtain⟨h1,h2,h3,h4,h5,h6,h7,h8⟩:=hs;have hm:=A8 h l;have hq:1≤h/l:=(C4 (by omega)).2 (by omega);have hr:h%l<l:=A4 _ (by omega);generalize h/l=q at *;generalize h%l=r at *;subst hm;have e5:q*xa≤q*xb:=Ay q h5;have e6:xa≤q*xa:=Cu xa hq;have e7:xb≤q*xb:=Cu xb hq;have e8:(q-1)*xa≤(q-1)*xb:=Ay _ h5;have e9:(q-1)*xa+xa=q*xa:=by
  rw[←Nat.succ_mul];congr 1;omega
 have e10:(q-1)*xb+xb=q*xb:=by
  rw[←Nat.succ_mul];congr 1;omega
 refine⟨by omega,by rw[h2];grind,by rw[h3];grind,?_,by omega,by omega,by omega,by omega⟩;rw[←h4];push_cast
 grind
theorem Jb5.small{H L h l na nb xa xb:Nat}{s:Int}(hs:Jb5 H L s h l na nb xa xb)(hl:1≤l):nb+xb≤H∧na+xa≤L:=by
 obtain⟨h1,h2,h3,h4,h5,h6,h7,h8⟩:=hs;have e1:nb≤nb*l:=Cz nb hl;have e2:xb≤xb*h:=Cz xb (by omega);have e3:na≤na*l:=Cz na hl;have e4:xa≤xa*h:=Cz xa (by omega);omega
def Jbu(A B pa pb na nb:Nat):Prop:=
 A=pb*YR (na*A) (nb*B)+nb*YR (pa*A) (pb*B)∧B=pa*YR (na*A) (nb*B)+na*YR (pa*A) (pb*B)∧
 YR (na*A) (nb*B)<YR (pa*A) (pb*B)∧1≤nb
theorem Jfb{x y:Nat}{z:Int}(hz:0≤z)(h:z=(x:Int)-y∨z=(y:Int)-x):(YR x y:Int)=z:=by
 unfold YR;omega
theorem Jb5.out{H L S al be A B h l na nb xa xb:Nat}{s:Int}(hs:Jb5 H L s h l na nb xa xb)(hA:A=H*S+al)(hB:B=L*S+be)(ha:al<S)(hb:be<S)
(hl:xb≤l)(hh:nb+xb≤h-l):Jbu A B na nb xa xb:=by
 obtain⟨h1,h2,h3,h4,h5,h6,h7,h8⟩:=hs;have eH:(H:Int)=nb*l+xb*h:=by rw[h2];push_cast;rfl
 have eL:(L:Int)=na*l+xa*h:=by rw[h3];push_cast;rfl
 have eA:(A:Int)=H*S+al:=by rw[hA];push_cast;rfl
 have eB:(B:Int)=L*S+be:=by rw[hB];push_cast;rfl
 have Qa:s*s=1:=by rcases h1 with rfl|rfl<;>rfl
 obtain⟨X,hX⟩:∃X:Int,X=s*(na*A-nb*B):=⟨_,rfl⟩;obtain⟨Y,hY⟩:∃Y:Int,Y=-s*(xa*A-xb*B):=⟨_,rfl⟩;have x1:X=(h:Int)*S+s*(na*al-nb*be):=by
  have:X=(s*(na*xb-nb*xa))*h*S+s*(na*al-nb*be):=by rw[hX,eA,eB,eH,eL];grind
  rw[this,h4,Qa];grind
 have y1:Y=(l:Int)*S-s*(xa*al-xb*be):=by
  have:Y=(s*(na*xb-nb*xa))*l*S-s*(xa*al-xb*be):=by rw[hY,eA,eB,eH,eL];grind
  rw[this,h4,Qa];grind
 have c1:(xa:Int)*al≤xb*al:=by exact_mod_cast Am al h5
 have c2:(xb:Int)*al<xb*S:=by exact_mod_cast C3 ha (by omega)
 have c3:(xb:Int)*be<xb*S:=by exact_mod_cast C3 hb (by omega)
 have c4:(xb:Int)*S≤l*S:=by exact_mod_cast Am S hl
 have d1:((na+xa:Nat):Int)*al≤(nb+xb:Nat)*al:=by exact_mod_cast Am al h6
 have d2:((nb+xb:Nat):Int)*al<(nb+xb:Nat)*S:=by exact_mod_cast C3 ha (by omega)
 have d3:((nb+xb:Nat):Int)*be<(nb+xb:Nat)*S:=by exact_mod_cast C3 hb (by omega)
 have d4:((nb+xb:Nat):Int)*S≤(h-l:Nat)*S:=by exact_mod_cast Am S hh
 have d5:((h-l:Nat):Int)=h-l:=by omega
 rw[d5]at d4;simp only[Int.natCast_add,Int.add_mul,Int.sub_mul]at d1 d2 d3 d4;have p1:(0:Int)≤xb*be:=by exact_mod_cast AW _
 have p2:(0:Int)≤xa*al:=by exact_mod_cast AW _
 have p3:(0:Int)≤na*al:=by exact_mod_cast AW _
 have p4:(0:Int)≤nb*be:=by exact_mod_cast AW _
 have hY0:0<Y:=by
  rw[y1];rcases h1 with rfl|rfl<;>omega
 have hXY:Y<X:=by
  rw[x1,y1];rcases h1 with rfl|rfl<;>omega
 have ex:(YR (na*A) (nb*B):Int)=X:=Jfb (by omega) (by push_cast;rw[hX];rcases h1 with rfl|rfl<;>omega);have ey:(YR (xa*A) (xb*B):Int)=Y:=Jfb (by omega) (by push_cast;rw[hY];rcases h1 with rfl|rfl<;>omega);refine⟨?_,?_,by omega,h7⟩
 · have:(A:Int)=nb*Y+xb*X:=by
    have:(nb:Int)*Y+xb*X=(s*(na*xb-nb*xa))*A:=by rw[hX,hY];grind
    rw[this,h4,Qa];omega
   rw[←ex,←ey]at this;exact_mod_cast this
 · have:(B:Int)=na*Y+xa*X:=by
    have:(na:Int)*Y+xa*X=(s*(na*xb-nb*xa))*B:=by rw[hX,hY];grind
    rw[this,h4,Qa];omega
   rw[←ex,←ey]at this;exact_mod_cast this
theorem Jbu.gcd{A B pa pb na nb:Nat}(h:Jbu A B pa pb na nb):Nat.gcd (YR (pa*A) (pb*B)) (YR (na*A) (nb*B))=Nat.gcd A B:=by
 obtain⟨h1,h2,_,_⟩:=h;apply Nat.dvd_antisymm
 · have k1:=Nat.gcd_dvd_left (YR (pa*A) (pb*B)) (YR (na*A) (nb*B));have k2:=Fg (YR (pa*A) (pb*B)) (YR (na*A) (nb*B));generalize Nat.gcd (YR (pa*A) (pb*B)) (YR (na*A) (nb*B))=g at *;apply Nat.dvd_gcd
   · rw[h1];exact Nat.dvd_add (Ct k2 _) (Ct k1 _)
   · rw[h2];exact Nat.dvd_add (Ct k2 _) (Ct k1 _)
 · have k1:=Nat.gcd_dvd_left A B;have k2:=Fg A B;generalize Nat.gcd A B=g at *;have hd:∀x y:Nat,g∣YR (x*A) (y*B):=fun x y=>by
    unfold YR;exact Nat.dvd_add (Nat.dvd_sub (Ct k1 _) (Ct k2 _)) (Nat.dvd_sub (Ct k2 _) (Ct k1 _))
   exact Nat.dvd_gcd (hd _ _) (hd _ _)
theorem Jbu.less{A B pa pb na nb:Nat}(h:Jbu A B pa pb na nb)(hp:pb≠0)(hB:0<B):YR (pa*A) (pb*B)+YR (na*A) (nb*B)<A+B:=by
 obtain⟨h1,h2,h3,h4⟩:=h;have e1:YR (na*A) (nb*B)≤pb*YR (na*A) (nb*B):=Cu _ (by omega);have e2:YR (pa*A) (pb*B)≤nb*YR (pa*A) (pb*B):=Cu _ (by omega);omega
