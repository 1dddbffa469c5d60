import Init
import Derived.Test.YteldjhhjnchdeaaGreatDoorU01
set_option maxRecDepth 100000
set_option maxHeartbeats 16000000
namespace Go.Proofs.YteldjhhjnchdeaaGreatDoor
theorem DO:type_of% @Nat.mul_pos:=@Nat.mul_pos
theorem DE:type_of% @UInt8.toNat_inj:=@UInt8.toNat_inj
theorem Bv:type_of% @congrArg:=@congrArg
theorem Bg:type_of% @decide_eq_false_iff_not:=@decide_eq_false_iff_not
theorem BR:type_of% @decide_eq_true_eq:=@decide_eq_true_eq
def val(B:Nat):List Nat->Nat
 |[]=>0
 |d::ds=>d+B*val B ds
def DS(B:Nat)(ds:List Nat):Prop:=∀d∈ds,d<B
def Gh(B:Nat):Nat->Nat->List Nat
 |0,_=>[]
 |k+1,n=>if n=0\/B<2 then []else n%B::Gh B k (n/B)
def Jc(B n:Nat):List Nat:=Gh B n n
theorem O1(B:Nat):∀(k n m:Nat),n<=k->n<=m->Gh B k n=Gh B m n
 |0,n,m,h,_=>by
  have:n=0:=J
  subst this;cases m with
  |zero=>rfl
  |succ m=>rw[Gh,Gh,BG (Or.inl rfl)]
 |k+1,n,0,_,h=>by
  have:n=0:=J
  subst this;rw[Gh,Gh,BG (Or.inl rfl)]
 |k+1,n,m+1,a,b=>by
  rw[Gh,Gh];by_cases h:n=0\/B<2
  . rw[BG h,BG h]
  . have c:n/B<n:=FT J J;rw[BE h,BE h,O1 B k (n/B) m J J]
def Jy:List Nat->List Nat
 |[]=>[]
 |d::ds=>match Jy ds with
  |[]=>if d=0 then []else [d]
  |e::es=>d::e::es
variable{s z:Int}{D a b ds:List Nat}{l:List UInt8}{A B E H L R V d d0 d1 g h i j k lo lo2 m n nb o p q r u u1 v w y:Nat}{c:UInt8}{f:UInt8->Bool}
theorem DS.nil(B:Nat):DS B []:=λ_ h=>by cases h
theorem DS.cons(h:d<B)(k:DS B ds):DS B (d::ds):=λx a=>by
 rcases List.mem_cons.1 a with rfl|a
 . exact h
 . exact k x a
theorem DS.head(h:DS B (d::ds)):d<B:=h d (CL ..)
theorem DS.tail(h:DS B (d::ds)):DS B ds:=λx a=>h x (List.mem_cons_of_mem _ a)
theorem DS.append(h:DS B a)(k:DS B b):DS B (a++b):=λx c=>by
 rcases C9.1 c with c|c
 . exact h x c
 . exact k x c
theorem Kh(B:Nat):val B []=0:=rfl
theorem J5(B d:Nat)(ds:List Nat):val B (d::ds)=d+B*val B ds:=rfl
theorem val_append(B:Nat):∀(a b:List Nat),val B (a++b)=val B a+B^a.length*val B b
 |[],b=>by simp[val]
 |d::a,b=>by
  simp only[AA,J5,val_append B a b,An,AQ];rw[Ax,As (B^a.length) B,Az,CO]
theorem Yl{B:Nat}:∀ {ds:List Nat},DS B ds->val B ds<B^ds.length
 |[],_=>by simp[val]
 |d::ds,h=>by
  have b:=h.head;have a:=Yl h.tail;simp only[J5,An,AQ];have c:B*val B ds+B<=B*B^ds.length:=by
   rw[<-Nat.mul_succ];exact Av _ a
  rw[As (B^ds.length) B];omega
theorem Jz(B:Nat):Jc B 0=[]:=rfl
theorem XR(b:2<=B)(c:n≠0):Jc B n=n%B::Jc B (n/B):=by
 unfold Jc;obtain⟨m,rfl⟩:∃m,n=m+1:=⟨n-1,J⟩;have a:(m+1)/B<m+1:=FT J J;rw[Gh,BE J,O1 B m _ _ J (Aa _)]
theorem Jp(b:2<=B)(n:Nat):val B (Jc B n)=n:=by
 induction n using Nat.strongRecOn with
 |ind n c=>
  by_cases a:n=0
  . subst a;rw[Jz];rfl
  . rw[XR b a,J5,c _ (FT J J)];exact Nat.mod_add_div n B
theorem Jq(b:2<=B)(n:Nat):DS B (Jc B n):=by
 induction n using Nat.strongRecOn with
 |ind n c=>
  by_cases a:n=0
  . subst a;rw[Jz];exact DS.nil B
  . rw[XR b a];exact DS.cons (A7 _ J) (c _ (FT J J))
theorem JD(a:2<=B):Jc B n=[]↔n=0:=by
 constructor
 . intro h;have:=Jp a n;rw[h]at this;exact this.symm
 . intro h;rw[h,Jz]
theorem Yk(h:Jy ds=[]):Jy (d::ds)=if d=0 then []else [d]:=by
 simp only[Jy,h]
theorem YB(h:Jy ds≠[]):Jy (d::ds)=d::Jy ds:=by
 simp only[Jy];cases a:Jy ds with
 |nil=>exact absurd a h
 |cons e b=>rfl
theorem LP(B:Nat):∀(ds:List Nat),val B (Jy ds)=val B ds
 |[]=>rfl
 |d::ds=>by
  by_cases h:Jy ds=[]
  . have:=LP B ds;rw[h]at this;rw[Yk h,J5,<-this];by_cases a:d=0
    . simp[a,val]
    . simp[a,val]
  . rw[YB h,J5,J5,LP B ds]
theorem J9{B:Nat}(j:2<=B):∀ {ds:List Nat},DS B ds->Jc B (val B ds)=Jy ds
 |[],_=>by rw[Kh,Jz];rfl
 |d::ds,h=>by
  have i:=h.head;have g:=J9 j h.tail;rw[J5];by_cases f:d+B*val B ds=0
  . have c:d=0:=J
    have e:val B ds=0:=by
     rcases AY (val B ds)with b|b
     . exact b
     . have:0<B*val B ds:=DO J b
       omega
    rw[e,Jz]at g;rw[f,Jz,Yk g.symm,BG c]
  . rw[XR j f];have k:(d+B*val B ds)%B=d:=by rw[CR];exact Cm i
    have l:(d+B*val B ds)/B=val B ds:=by
     rw[Ff _ _ J,Ca i,A8]
    rw[k,l,g];by_cases a:Jy ds=[]
    . rw[Yk a,a];have e:val B ds=0:=by rw[<-LP B ds,a];rfl
      rw[BE];intro c;apply f;rw[c,e];simp
    . rw[YB a]
def Ev(ds:List Nat):Prop:=Jy ds=ds
theorem Ym(a:2<=B)(n:Nat):Ev (Jc B n):=by
 have h:=J9 a (Jq a n);rw[Jp a]at h;exact h.symm
theorem Xe(a:2<=B)(h:DS B ds)(b:Ev ds):Jc B (val B ds)=ds:=(J9 a h).trans b
theorem XC:∀(ds:List Nat) {d:Nat},d≠0->Jy (ds++[d])=ds++[d]
 |[],d,h=>by simp[Jy,h]
 |e::ds,d,h=>by
  have a:=XC ds h;rw[AA,YB (by rw[a];simp),a]
theorem YQ:∀(ds:List Nat),Jy (ds++[0])=Jy ds
 |[]=>by simp[Jy]
 |e::ds=>by
  have a:=YQ ds;by_cases h:Jy ds=[]
  . rw[AA,Yk (by rw[a];exact h),Yk h]
  . rw[AA,YB (by rw[a];exact h),YB h,a]
theorem O2(ds:List Nat)(k:Nat)(n:k<=ds.length)(a:∀j,k<=j->j<ds.length->ds[j]?=some 0):Jy (ds.take k)=Jy ds:=by
 obtain⟨m,f⟩:∃m,ds.length=k+m:=⟨ds.length-k,J⟩;induction m generalizing ds with
 |zero=>rw[Ac J]
 |succ m g=>
  have hl:ds=ds.take (k+m)++[0]:=by
   apply List.ext_getElem?;intro i;by_cases d:i<k+m
   . rw[AJ (by rw[Am];omega),AH d]
   . by_cases e:i=k+m
     . subst e;rw[AC (by rw[Am];omega),a _ J J];simp[List.length_take,f]
     . rw[At J,At];simp[List.length_take];omega
  have b:(ds.take (k+m)).length=k+m:=by rw[Am];omega
  have:=g (ds.take (k+m)) J (by
   intro j c l;rw[AH J];exact a j c J) b
  rw[List.take_take,CF J]at this;rw[this];conv=>rhs;rw[hl]
  rw[YQ]
theorem Tn(ds:List Nat)(k:Nat)(a:k<ds.length)(d:ds[k]?≠some 0)(b:∀j,k<j->j<ds.length->ds[j]?=some 0):Jy ds=ds.take (k+1):=by
 rw[<-O2 ds (k+1) J λj f c=>b j J c];rw[Cf a];refine XC _ ?_;intro e;apply d;rw[Ag a,e]
theorem To(ds:List Nat)(a:∀j,j<ds.length->ds[j]?=some 0):Jy ds=[]:=by
 have:=O2 ds 0 J λj _ h=>a j h;rw[<-this];simp[Jy]
theorem O3{B:Nat}:∀ {ds:List Nat},DS B ds->DS B (Jy ds)
 |[],h=>h
 |d::ds,h=>by
  by_cases a:Jy ds=[]
  . rw[Yk a];split
    . exact DS.nil B
    . exact DS.cons h.head (DS.nil B)
  . rw[YB a];exact DS.cons h.head (O3 h.tail)
theorem XY:∀(ds:List Nat),(Jy ds).length<=ds.length
 |[]=>by simp[Jy]
 |d::ds=>by
  have:=XY ds;by_cases a:Jy ds=[]
  . rw[Yk a];split<;>simp
  . rw[YB a];simp;omega
theorem JK(b:2<=B)(h:n<B^k):(Jc B n).length<=k:=by
 induction k generalizing n with
 |zero=>
  have:n=0:=by simp at h;exact h
  rw[this,Jz];simp
 |succ k c=>
  by_cases a:n=0
  . rw[a,Jz];simp
  . rw[XR b a,An]
    have:n/B<B^k:=by
     apply Nat.div_lt_of_lt_mul;rw[As,<-AQ];exact h
    have:=c this;omega
theorem O4(b:2<=B)(h:(Jc B n).length=k+1):B^k<=n:=by
 rcases AO n (B^k)with a|a
 . have:=JK b a;omega
 . exact a
theorem YR(a:2<=B)(h:(Jc B m).length<(Jc B n).length):m<n:=by
 have b:m<B^(Jc B m).length:=by
  have:=Yl (Jq a m);rwa[Jp a]at this
 have c:B^((Jc B n).length-1)<=n:=O4 a J;have d:B^(Jc B m).length<=B^((Jc B n).length-1):=Aw J J;omega
def Xf(m n:Nat):Int:=if m<n then -1 else if n<m then 1 else 0
theorem Mw(m:Nat):Xf m m=0:=by simp[Xf]
theorem XZ(h:m<n):Xf m n=-1:=by simp[Xf,h]
theorem Ie(h:n<m):Xf m n=1:=by
 have:¬m<n:=J
 simp[Xf,h,this]
theorem O5(ds:List Nat)(k:Nat)(a:k<ds.length):val B ds=val B (ds.take k)+B^k*(ds[k]?.getD 0+B*val B (ds.drop (k+1))):=by
 have b:ds=ds.take k++(ds[k]?.getD 0::ds.drop (k+1)):=by
  rw[Ag a];conv=>lhs;rw[<-Cn k ds,A0 a]
  rfl
 have c:(ds.take k).length=k:=by rw[Am];omega
 conv=>lhs;rw[b]
 rw[val_append,J5,c]
theorem DS.take{B:Nat}{ds:List Nat}(h:DS B ds)(k:Nat):DS B (ds.take k):=λx a=>h x (FL a)
theorem DS.drop{B:Nat}{ds:List Nat}(h:DS B ds)(k:Nat):DS B (ds.drop k):=λx a=>h x (List.mem_of_mem_drop a)
theorem DS.get(h:DS B ds)(a:k<ds.length):ds[k]?.getD 0<B:=by
 rw[Ag a];exact h _ (List.getElem_mem a)
theorem DS.getD{B:Nat}{ds:List Nat}(h:DS B ds)(b:0<B)(k:Nat):ds[k]?.getD 0<B:=by
 rcases AO k ds.length with a|a
 . exact h.get a
 . rw[At a];exact b
theorem LQ(e:DS B a)(hl:a.length=b.length)(k:Nat)(g:k<a.length)(f:a.drop (k+1)=b.drop (k+1))(h:a[k]?.getD 0<b[k]?.getD 0):val B a<val B b:=by
 rw[O5 a k g,O5 b k J,<-f];have c:=Yl (e.take k);have d:(a.take k).length=k:=by rw[Am];omega
 rw[d]at c;have i:B^k*(a[k]?.getD 0+B*val B (a.drop (k+1)))+B^k<=B^k*(b[k]?.getD 0+B*val B (a.drop (k+1))):=by
  rw[<-Nat.mul_succ];exact Av _ J
 omega
theorem O6(hl:a.length=b.length)(k:Nat)(c:k<a.length)(d:a.drop (k+1)=b.drop (k+1))(h:a[k]?.getD 0=b[k]?.getD 0):a.drop k=b.drop k:=by
 rw[A0 c,A0 (by omega:k<b.length),d];rw[Ag c,Ag (by omega:k<b.length)]at h;exact Bv (·::_) h
theorem YE(c:2<=B)(d:DS B a)(e:DS B b)(ta:Ev a)(tb:Ev b)(h:a.length<b.length):val B a<val B b:=by
 apply YR c;rw[Xe c d ta,Xe c e tb];exact h
theorem Jr(B:Nat)(ds:List Nat)(k:Nat):val B (ds.take (k+1))=val B (ds.take k)+B^k*ds[k]?.getD 0:=by
 rcases AO k ds.length with h|h
 . rw[Cf h,val_append,Am,CF J,Ag h];simp[val]
 . rw[Ac J,Ac h,At h];simp
theorem YL(B:Nat)(ds:List Nat)(d:Nat):val B (ds++[d])=val B ds+B^ds.length*d:=by
 rw[val_append];simp[val]
theorem Mx(f:2<=B)(h:DS B ds)(hp:ds=[]\/B^(ds.length-1)<=val B ds):Ev ds:=by
 rcases hp with rfl|hp
 . rfl
 . have c:=XY ds;rcases AO (Jy ds).length ds.length with k|g
   . have e:=Yl (O3 h);rw[LP]at e;have j:B^(Jy ds).length<=B^(ds.length-1):=Aw J J;omega
   . have hl:(Jy ds).length=ds.length:=J
     clear c g hp h f;unfold Ev;induction ds with
     |nil=>rfl
     |cons d ds i=>
      by_cases b:Jy ds=[]
      . rw[Yk b]at hl ⊢;by_cases a:d=0
        . rw[BG a]at hl;simp at hl
        . rw[BE a]at hl ⊢;simp at hl;rw[hl]
      . rw[YB b]at hl ⊢;rw[i (by simpa using hl)]
theorem Tp(a:List Nat)(c s A:Nat)(h:val B a+B^a.length*c=A):val B (a++[(c+s)%B])+B^(a.length+1)*((c+s)/B)=A+B^a.length*s:=by
 rw[YL,AQ,Az,CO,<-Ax,Nat.mod_add_div,Ax];omega
theorem Xk(a:2<=B)(h:(Jc B n).length=k)(b:k≠0):B^(k-1)<=n:=O4 a J
theorem Tq(b:2<=B){a:List Nat}(d:DS B a)(e:val B a=m+n)
(hl:a.length<=max (Jc B m).length (Jc B n).length\/B^(a.length-1)<=val B a)(hle:max (Jc B m).length (Jc B n).length<=a.length):a=Jc B (m+n):=by
 rw[<-e];refine(Xe b d (Mx b d ?_)).symm;by_cases c:a.length=0
 . exact Or.inl (Aq c)
 . right
   rcases hl with hl|hl
   . rcases Nat.le_total (Jc B m).length (Jc B n).length with h|h
     . have:=Xk b (n:=n) (k:=a.length) J c;omega
     . have:=Xk b (n:=m) (k:=a.length) J c;omega
   . exact hl
def Ew(d:Nat):UInt8:=UInt8.ofNat (48+d)
def ES(ds:List Nat):List UInt8:=(ds.map Ew).reverse
def Xu(n:Nat):List UInt8:=if n=0 then [48]else ES (Jc 10 n)
def Y0(z:Int):List UInt8:=if z<0 then 45::Xu z.natAbs else Xu z.natAbs
theorem My(ds:List Nat)(d:Nat):ES (ds++[d])=Ew d::ES ds:=by simp[ES]
theorem O7(ds:List Nat):(ES ds).length=ds.length:=by simp[ES]
def X0(ds:List Nat)(i k n:Nat)(D:List Nat):Prop:=
 D.length=4*i+k/\DS 10 D/\k<=4/\n=ds[i]?.getD 0/10^k/\val 10 D+10^(4*i+k)*n=val 10000 (ds.take i)+10000^i*ds[i]?.getD 0/\(i+1<ds.length\/k=0\/10^(k-1)<=ds[i]?.getD 0)
theorem O8(i:Nat):(10:Nat)^(4*i)=10000^i:=by rw[FJ]
theorem X0.start(hl:D.length=4*i)(a:DS 10 D)(b:val 10 D=val 10000 (ds.take i)):X0 ds i 0 (ds[i]?.getD 0) D:=by
 refine⟨J,a,J,Y,?_,Or.inr (Or.inl rfl)⟩;rw[Ch,O8,b]
theorem X0.step(h:X0 ds i k n D)(j:k<4)(e:0<n\/i+1<ds.length):X0 ds i (k+1) (n/10) (D++[n%10]):=by
 obtain⟨b,c,f,a,d,g⟩:=h;refine⟨by simp;omega,c.append (DS.cons (A7 _ J) (DS.nil _)),J,?_,?_,?_⟩
 . rw[a,Nat.div_div_eq_div_mul,<-AQ]
 . rw[YL,b,<-d,CO (4*i) k 1 |>.symm,AQ,Az,CO,<-Ax,Nat.mod_add_div]
 . rcases e with h|h
   . right;right
     rw[Nat.add_sub_cancel];rw[a]at h;have:=Nat.div_pos_iff.1 h;exact this.2
   . exact Or.inl h
theorem X0.next(h:X0 ds i 4 n D)(f:DS 10000 ds):D.length=4*(i+1)/\DS 10 D/\val 10 D=val 10000 (ds.take (i+1)):=by
 obtain⟨g,b,j,c,d,k⟩:=h;have e:=f.getD J i;have a:n=0:=by rw[c];exact Ca (by simpa using e)
 subst a;refine⟨J,b,?_⟩;rw[Jr,<-d];simp
theorem X0.last(h:X0 ds i k 0 D)(r:i+1=ds.length):D.length<=4*ds.length/\DS 10 D/\val 10 D=val 10000 ds/\(val 10000 ds≠0->Ev ds->D=Jc 10 (val 10000 ds)):=by
 obtain⟨g,b,q,j,l,a⟩:=h;have e:val 10 D=val 10000 ds:=by
  have:=Jr 10000 ds i;rw[Ac J]at this;rw[this,<-l];simp
 refine⟨J,b,e,λt p=>?_⟩;rw[<-e];refine(Xe J b (Mx J b ?_)).symm;have u:ds[i]?.getD 0≠0:=by
  intro c;have m:ds=ds.take i++[0]:=by
   conv=>lhs;rw[<-Cn i ds,A0 (by omega:i<ds.length)]
   rw[AR J];rw[Ag J]at c;have f:ds[i]=0:=c;rw[f]
  have n:(Jy ds).length<=i:=by
   rw[m,YQ];have:=XY (ds.take i);rw[Am]at this;omega
  rw[p]at n;omega
 right
 rw[g,e];have s:k≠0:=by
  intro o;subst o;simp at j;omega
 rcases a with a|a|a
 . omega
 . omega
 . have:=Jr 10000 ds i;rw[Ac J]at this;rw[this];have d:(10:Nat)^(4*i+k-1)=10000^i*10^(k-1):=by
    rw[<-O8,<-CI];congr 1;omega
   rw[d];have:=Av (10000^i) a;omega
theorem LR(h:n≠0):Xu n=ES (Jc 10 n):=by simp[Xu,h]
def DY(c:UInt8):Bool:=decide (48<=c.toNat)&&decide (c.toNat<=57)
def D8(l:List UInt8):List Nat:=(l.map λc=>c.toNat-48).reverse
def num(l:List UInt8):Nat:=val 10 (D8 l)
def JN(l:List UInt8):List UInt8:=if l.head?=some 45 then l.tail else l
def good(l:List UInt8):Bool:=decide (l.length<=2000) && !(JN l).isEmpty&&(!decide ((JN l).head?=some 48) || decide (l=[48]))&&(JN l).all DY
def Y2(l:List UInt8):Int:=if l.head?=some 45 then -(num (JN l):Int)else num (JN l)
theorem YV(h:DY c=true):48<=c.toNat/\c.toNat<=57:=by simpa[DY]using h
theorem Ig(h:d<10):(Ew d).toNat=48+d:=by
 unfold Ew;rw[UInt8.toNat_ofNat'];omega
theorem Tr(h:DY c=true):Ew (c.toNat-48)=c:=by
 have a:=YV h;apply DE.1;rw[Ig J];omega
theorem Ts(l:List UInt8)(c:UInt8):D8 (l++[c])=(c.toNat-48)::D8 l:=by simp[D8]
theorem Mz(l:List UInt8)(c:UInt8):num (l++[c])=(c.toNat-48)+10*num l:=by rw[num,Ts,J5];rfl
theorem Tt(a b:List UInt8):D8 (a++b)=D8 b++D8 a:=by simp[D8]
theorem Ki(l:List UInt8):(D8 l).length=l.length:=by simp[D8]
theorem Kj(a b:List UInt8):num (a++b)=num b+10^b.length*num a:=by rw[num,Tt,val_append,Ki];rfl
theorem LS(h:l.all DY=true):DS 10 (D8 l):=by
 intro d a;simp only[D8,List.mem_reverse,FA]at a;obtain⟨c,b,rfl⟩:=a;have:=YV (A4.1 h c b);omega
theorem Tu(h:l.all DY=true):ES (D8 l)=l:=by
 simp only[ES,D8,List.map_reverse,List.reverse_reverse,List.map_map];conv=>rhs;rw[<-List.map_id l]
 apply List.map_congr_left;intro c a;exact Tr (A4.1 h c a)
theorem Tv(b:DY c=true)(a:c≠48):Ev (D8 (c::l)):=by
 have e:D8 (c::l)=D8 l++[c.toNat-48]:=by simp[D8]
 rw[e];refine XC _ ?_;have:=YV b;intro h;apply a;apply DE.1;show c.toNat=48;omega
theorem NA(h:(c::l).all DY=true)(b:c≠48):Xu (num (c::l))=c::l/\num (c::l)≠0:=by
 have d:DY c=true:=A4.1 h c (CL ..);have e:=Xe (B:=10) J (LS h) (Tv d b);have a:num (c::l)≠0:=by
  intro f;rw[show val 10 (D8 (c::l))=0 from f,Jz]at e;have:=Bv List.length e;rw[Ki]at this;simp at this
 refine⟨?_,a⟩;rw[LR a,num,e,Tu h]
theorem O9(h:good l=true):Y0 (Y2 l)=l:=by
 simp only[good,AM,BR,Fa,Ct,Bg]at h;obtain⟨⟨⟨_,g⟩,i⟩,f⟩:=h;cases a:JN l with
 |nil=>rw[a]at g;simp at g
 |cons c t=>
  rw[a]at i f;by_cases d:c=48
  . have hl:l=[48]:=by
     rcases i with h|h
     . exact absurd (by rw[d];rfl) h
     . exact h
    subst hl;simp[Y2,JN,Y0,Xu,num,D8,val]
  . obtain⟨e,j⟩:=NA f d;by_cases b:l.head?=some 45
    . have hl:l=45::c::t:=by
       cases l with
       |nil=>simp at b
       |cons x l'=>
        simp at b;subst b;simp[JN]at a;rw[a]
      rw[Y2,BG b,a,Y0,BG J,Fq,AP,e,hl]
    . have hl:l=c::t:=by rw[<-a,JN,BE b]
      rw[Y2,BE b,a,Y0,BE J,AP,e,hl]
theorem Tw(h:DS 10 ds):(ES ds).all DY=true:=by
 rw[A4];intro c a;simp only[ES,List.mem_reverse,FA]at a;obtain⟨d,b,rfl⟩:=a;have:=h d b;simp[DY,Ig this];omega
theorem Tx(h:DS 10 ds):num (ES ds)=val 10 ds:=by
 have e:D8 (ES ds)=ds:=by
  simp only[ES,D8,List.map_reverse,List.reverse_reverse,List.map_map];conv=>rhs;rw[<-List.map_id ds]
  apply List.map_congr_left;intro d a;have:=h d a;simp[Ig this]
 rw[num,e]
theorem LT(j:n≠0):∃c t,Xu n=c::t/\c≠48/\c≠45/\(c::t).all DY=true/\num (c::t)=n:=by
 have a:=Jq (B:=10) J n;have k:=Ym (B:=10) J n;have q:=Jp (B:=10) J n;have m:Jc 10 n≠[]:=by rw[Ne,JD J];exact j
 have f:=Tw a;have b:=Tx a;have e:Xu n=ES (Jc 10 n):=LR j;rw[q]at b;obtain⟨ds,d,p⟩:∃ds d,Jc 10 n=ds++[d]:=⟨_,_,(List.dropLast_concat_getLast m).symm⟩;rw[p]at f b e k a;rw[My]at f b e;have r:d≠0:=by
  intro o;subst o;have g:(Jy (ds++[0])).length<=ds.length:=by rw[YQ];exact XY ds
  rw[k]at g;simp at g;omega
 have l:d<10:=a d Y;have i:=Ig l;refine⟨Ew d,ES ds,e,?_,?_,f,b⟩
 . intro h;rw[h]at i
   have:(48:UInt8).toNat=48:=rfl
   omega
 . intro h;rw[h]at i
   have:(45:UInt8).toNat=45:=rfl
   omega
theorem Ty(h:(Y0 z).length<=2000):good (Y0 z)=true/\Y2 (Y0 z)=z:=by
 by_cases l:z.natAbs=0
 . have:z=0:=J
   subst this;simp[Y0,Xu,good,Y2,JN,num,D8,val,DY]
 . obtain⟨c,t,e,d,j,f,g⟩:=LT l;by_cases i:z<0
   . have a:Y0 z=45::c::t:=by rw[Y0,BG i,e]
     rw[a]at h ⊢;refine⟨?_,?_⟩
     . simp only[good,JN,List.head?_cons,BG,List.tail_cons,f,List.isEmpty_cons,Bool.and_true,AM,BR,Bool.not_false,Fa,Ct,Bg,Ah];exact⟨h,Or.inl d⟩
     . simp only[Y2,JN,List.head?_cons,BG,List.tail_cons,g];omega
   . have a:Y0 z=c::t:=by rw[Y0,BE i,e]
     rw[a]at h ⊢;have b:¬((c::t).head?=some 45):=by simp[j]
     refine⟨?_,?_⟩
     . have k:JN (c::t)=c::t:=by rw[JN,BE b]
       rw[good,k];simp only[f,List.isEmpty_cons,Bool.and_true,AM,BR,Bool.not_false,Fa,Ct,Bg,List.head?_cons,Ah];exact⟨h,Or.inl d⟩
     . rw[Y2,BE b,JN,BE b,g];omega
theorem Tz(a:10<=B):(Jc B n).length<=(Jc 10 n).length:=by
 refine JK J ?_;have h:=Yl (Jq (B:=10) J n);rw[Jp J]at h;exact AB h (CS a _)
theorem T0(h:good l=true)(b:10<=B):(Jc B (Y2 l).natAbs).length<=2000:=by
 have e:=O9 h;have hl:l.length<=2000:=by
  simp only[good,AM,BR]at h;exact h.1.1.1
 rw[<-e]at hl;refine Ar (Tz b) ?_;by_cases a:(Y2 l).natAbs=0
 . rw[a,Jz];simp
 . have c:(Xu (Y2 l).natAbs).length=(Jc 10 (Y2 l).natAbs).length:=by rw[LR a,O7]
   unfold Y0 at hl;split at hl
   . simp at hl;omega
   . omega
def Xy(f:UInt8->Bool)(l:List UInt8)(i:Nat):Nat:=i+((l.drop i).takeWhile f).length
def DT(l:List UInt8)(i:Nat):Nat:=Xy (·==32) l i
def ET(l:List UInt8)(i:Nat):Nat:=Xy DY l i
theorem UA(e:n<=l.length)(a:∀k (h:k<n),f l[k]=true)(b:∀h:n<l.length,f l[n]=false):(l.takeWhile f).length=n:=by
 induction l generalizing n with
 |nil=>simp at e ⊢;omega
 |cons c t g=>
  cases n with
  |zero=>
   have:=b Y;simp at this;rw[List.takeWhile_cons_of_neg (by simp[this])];rfl
  |succ n=>
   have:=a 0 J;simp at this;rw[List.takeWhile_cons_of_pos this,An,g (n:=n) (by simpa using e) (λk d=>a (k+1) J) λd=>b (by simpa using d)]
theorem LU(d:i<=j)(g:j<=l.length)(b:∀k (h:k<l.length),i<=k->k<j->f l[k]=true)(c:∀h:j<l.length,f l[j]=false):Xy f l i=j:=by
 unfold Xy;rw[UA (n:=j-i) (by rw[AV];omega)]
 . omega
 . intro k a;rw[Fg];exact b _ _ J J
 . intro a;rw[Fg];rw[AV]at a;have e:i+(j-i)=j:=J
   have:=c J;simp only[e];exact this
theorem NB(f:UInt8->Bool)(l:List UInt8):(l.takeWhile f).length<=l.length/\(∀k (h:k<l.length),k<(l.takeWhile f).length->f l[k]=true)/\∀h:(l.takeWhile f).length<l.length,f (l[(l.takeWhile f).length]'h)=false:=by
 induction l with
 |nil=>simp
 |cons c t d=>
  by_cases a:f c=true
  . rw[List.takeWhile_cons_of_pos a];refine⟨by simp only[An];omega,λk b h=>?_,λh=>?_⟩
    . cases k with
      |zero=>simpa using a
      |succ k=>simpa using d.2.1 k (by simpa using b) (by simpa using h)
    . simp only[An,List.getElem_cons_succ];exact d.2.2 (by simpa using h)
  . rw[List.takeWhile_cons_of_neg (by simpa using a)];refine⟨Y,λk b h=>by simp at h,λh=>by simpa using a⟩
theorem NC(f:UInt8->Bool)(l:List UInt8)(i:Nat):i<=Xy f l i:=Nat.le_add_right _ _
theorem ND(a:i<=l.length):Xy f l i<=l.length:=by
 have:=(NB f (l.drop i)).1;rw[AV]at this;unfold Xy;omega
theorem UB(b:i<=k)(a:k<Xy f l i)(h:k<l.length):f l[k]=true:=by
 have:=(NB f (l.drop i)).2.1 (k-i) (by rw[AV];omega) (by unfold Xy at a;omega);rw[Fg]at this;have e:i+(k-i)=k:=J
 simpa only[e]using this
theorem NE(h:Xy f l i<l.length):f (l[Xy f l i]'h)=false:=by
 have a:((l.drop i).takeWhile f).length<(l.drop i).length:=by
  rw[AV];unfold Xy at h;omega
 have:=(NB f (l.drop i)).2.2 a;rw[Fg]at this;exact this
theorem UC(f:UInt8->Bool)(l:List UInt8)(i:Nat):Xy f l (Xy f l i)=Xy f l i:=by
 rcases AO (Xy f l i) l.length with h|h
 . exact LU (Aa _) J (λk _ b c=>by omega) λa=>NE a
 . unfold Xy;rw[show i+((l.drop i).takeWhile f).length=Xy f l i from rfl,AR h];rfl
def J8(l:List UInt8)(j:Nat)(c:UInt8):Bool:=l[j]?==some c
abbrev Rd(α:Type):=EStateM.Result Nat Nat α
def JX(l:List UInt8)(i:Nat):Rd (List UInt8 × Nat):=
 if ET l (DT l i)=DT l i then .error 2 (DT l i)
 else if 12<ET l (DT l i)-DT l i then .error 3 (DT l i)
 else .ok (((l.drop (DT l i)).take (ET l (DT l i)-DT l i)),DT l i) (ET l (DT l i))
def Yi(l:List UInt8)(i:Nat):Rd Rat:=
 match JX l i with
 |.error e p=>.error e p
 |.ok (ds,_) k=>
  if J8 l (DT l k) 47 then
   match JX l (DT l k+1)with
   |.error e p=>.error e p
   |.ok (a,p) m=>if num a=0 then .error 4 p else .ok (Rat.divInt (num ds) (num a)) m
  else .ok ((num ds:Int):Rat) (DT l k)
def EU(l:List UInt8)(i:Nat):Rd Nat:=
 if J8 l (DT l i) 94 then
  match JX l (DT l i+1)with
  |.error e p=>.error e p
  |.ok (ds,p) k=>if 8<num ds then .error 3 p else .ok (num ds) k
 else .ok 1 (DT l i)
def GK(l:List UInt8)(j:Nat):Bool:=(l[j]?.map DY).getD false
def Yd(l:List UInt8)(i:Nat):Rd (Rat × Nat):=
 if GK l (DT l i)then
  match Yi l (DT l i)with
  |.error e p=>.error e p
  |.ok c k=>
   if J8 l (DT l k) 120 then
    match EU l (DT l k+1)with
    |.error e p=>.error e p
    |.ok n m=>.ok (c,n) m
   else .ok (c,0) (DT l k)
 else if J8 l (DT l i) 120 then
  match EU l (DT l i+1)with
  |.error e p=>.error e p
  |.ok n m=>.ok (1,n) m
 else .error 2 (DT l i)
def Ek(l:List UInt8):Nat->Bool->Nat->List Rat->Rd (List Rat)
 |0,_,i,_=>.error 0 i
 |f+1,b,i,s=>
  match Yd l i with
  |.error e p=>.error e p
  |.ok (c,n) k=>
   let a:=s.set n (if b then cf s n-c else cf s n+c)
   if J8 l (DT l k) 43 then Ek l f false (DT l k+1) a
   else if J8 l (DT l k) 45 then Ek l f true (DT l k+1) a
   else if DT l k=l.length then .ok a (DT l k)
   else .error 2 (DT l k)
def J0(l:List UInt8):List Rat × Nat × Nat:=
 if 300<l.length then([],1,0)
 else
  match (if J8 l (DT l 0) 45 then Ek l (l.length+1) true (DT l 0+1) (List.replicate 9 0)else Ek l (l.length+1) false (DT l 0) (List.replicate 9 0))with
  |.error e p=>([],e,p)
  |.ok s _=>(Jd s,0,0)
theorem Hj{ds:List UInt8}(e:i<=l.length)(h:JX l i=.ok (ds,p) k):p=DT l i/\k=ET l p/\i<=p/\p<k/\k<=l.length/\k-p<=12/\ds=(l.drop p).take (k-p)/\ds.length=k-p/\ds.all DY=true:=by
 unfold JX at h;split at h
 . cases h
 . split at h
   . cases h
   . rename_i j m;simp only[EStateM.Result.ok.injEq,Prod.mk.injEq]at h;obtain⟨⟨rfl,rfl⟩,rfl⟩:=h;have hs:DT l i<=l.length:=ND e;have o:DT l i<=ET l (DT l i):=NC _ _ _;have b:ET l (DT l i)<=l.length:=ND hs;have a:((l.drop (DT l i)).take (ET l (DT l i)-DT l i)).length=ET l (DT l i)-DT l i:=by rw[Am,AV];omega
     refine⟨rfl,rfl,NC _ _ _,J,b,J,rfl,a,?_⟩;rw[A4];intro c d;obtain⟨n,g,rfl⟩:=List.mem_iff_getElem.1 d;rw[a]at g;rw[List.getElem_take,Fg];exact UB (f:=DY) (i:=DT l i) J (by show _<ET l (DT l i);omega) J
theorem NF{ds:List UInt8}(a:i<=l.length)(h:JX l i=.ok (ds,p) k):i<k/\k<=l.length:=by
 have:=Hj a h;omega
theorem Yb(h:J8 l j c=true):j<l.length:=by
 unfold J8 at h;rcases AO j l.length with a|a
 . exact a
 . rw[At a]at h;simp at h
theorem YO(a:i<=l.length):DT l i<=l.length:=ND a
theorem Gi(l:List UInt8)(i:Nat):i<=DT l i:=NC _ _ _
theorem NG{c:Rat}(f:i<=l.length)(h:Yi l i=.ok c k):i<k/\k<=l.length:=by
 unfold Yi at h;split at h
 . cases h
 . rename_i ds p g b;have d:=NF f b;have n:=Gi l g;have o:=YO d.2;split at h
   . rename_i a;have a:=Yb a;split at h
     . cases h
     . rename_i j r m e;have q:=NF J e;split at h
       . cases h
       . cases h;omega
   . cases h;omega
theorem NH(c:i<=l.length)(h:EU l i=.ok n k):i<=k/\k<=l.length/\n<=8:=by
 unfold EU at h;have e:=Gi l i;have f:=YO c;split at h
 . rename_i a;have a:=Yb a;split at h
   . cases h
   . rename_i d j m b;have g:=NF J b;split at h
     . cases h
     . cases h;omega
 . cases h;omega
theorem LV{c:Rat}(j:i<=l.length)(h:Yd l i=.ok (c,n) k):i<k/\k<=l.length/\n<=8:=by
 unfold Yd at h;have q:=Gi l i;have f:=YO j;split at h
 . split at h
   . cases h
   . rename_i c' o d;have e:=NG f d;have r:=Gi l o;have s:=YO e.2;split at h
     . rename_i a;have a:=Yb a;split at h
       . cases h
       . rename_i p m b;have g:=NH J b;cases h;omega
     . cases h;omega
 . split at h
   . rename_i a;have a:=Yb a;split at h
     . cases h
     . rename_i p m b;have g:=NH J b;cases h;omega
   . cases h
def Kk(u u1 d1 d0 q r:Nat):Prop:=
 q*d1+r=u/\(u*4294967296+u1)/(d1*4294967296+d0)<=q/\q<=4294967297/\r<4294967296
theorem PA(c:2147483648<=d1)(d:d1<4294967296)(b:d0<4294967296)(j:u1<4294967296)(i:u<d1*4294967296+d0):
 Kk u u1 d1 d0 (u/d1) (u%d1):=by
 have f:=Cb u d1;have g:u%d1<d1:=A7 _ J;have e:d1*(u/d1)=u/d1*d1:=As _ _;refine⟨J,?_,?_,J⟩
 . apply C7;rw[AX J];have a:(u/d1+1)*(d1*4294967296+d0)=u/d1*d1*4294967296+d1*4294967296+(u/d1+1)*d0:=by
    rw[Ax,<-Az,Ay (u/d1) 1 d1,Cw,Ay (u/d1*d1) d1]
   rw[Nat.succ_eq_add_one,a];generalize u/d1*d1=p at *;generalize (u/d1+1)*d0=z;omega
 . apply C7;rw[AX J];omega
theorem PB(h:Kk u u1 d1 d0 q r)(d:0<d1)(c:q*d0<=4294967296*r+u1):q=(u*4294967296+u1)/(d1*4294967296+d0):=by
 obtain⟨b,a,_,_⟩:=h;apply Fqq _ a;rw[Fu J,Ax,<-Az];generalize q*d1=p at *;generalize q*d0=z at *;omega
theorem PC(h:Kk u u1 d1 d0 q r)(j:2147483648<=d1)(l:u1<4294967296)(k:u<d1*4294967296+d0)(a:4294967296<=q\/4294967296*r+u1<q*d0):
 1<=q/\(q-1)*d1+(r+d1)=u/\(u*4294967296+u1)/(d1*4294967296+d0)<=q-1/\q-1<=4294967296:=by
 obtain⟨c,d,f,g⟩:=h;have hq:1<=q:=by
  rcases a with a|a
  . omega
  . rcases AY q with b|b
    . rw[b]at a;omega
    . exact b
 have e:(q-1)*d1+d1=q*d1:=by
  conv=>rhs;rw[show q=q-1+1 from by omega,Ay,Cw]
 refine⟨hq,J,?_,J⟩;apply C7;rw[Nat.succ_eq_add_one,Nat.sub_add_cancel hq,AX J];rcases a with a|a
 . have i:4294967296*(d1*4294967296+d0)<=q*(d1*4294967296+d0):=Ak _ a;omega
 . rw[Ax,<-Az];generalize q*d1=p at *;generalize q*d0=z at *;omega
theorem LW(d:q*d1+r=u)(a:(u*4294967296+u1)/(d1*4294967296+d0)<=q)(b:q<=4294967296)(c:d0<4294967296)(f:0<d1)(g:4294967296<=r):q=(u*4294967296+u1)/(d1*4294967296+d0):=by
 apply Fqq _ a;rw[Fu J,Ax,<-Az];have e:q*d0<=4294967296*d0:=Ak _ b;generalize q*d1=p at *;generalize q*d0=z at *;omega
theorem PD{t un0:Nat}(a:0<d):t/d*k+(t%d*k+un0)/d=(t*k+un0)/d/\(t%d*k+un0)%d=(t*k+un0)%d:=by
 have b:=Cb t d;have e:t*k+un0=d*(t/d*k)+(t%d*k+un0):=by
  conv=>lhs;rw[<-b,Ay,Az]
  omega
 rw[e,Nat.mul_add_div a,Nat.mul_add_mod];exact⟨rfl,rfl⟩
theorem UD{a s:Nat}:(a*2^s)/(y*2^s)=a/y/\(a*2^s)%(y*2^s)=a%y*2^s:=
 ⟨Nat.mul_div_mul_right _ _ (Cc s),Nat.mul_mod_mul_right _ _ _⟩
def LX(B u u1 d1 d0 q r:Nat):Prop:=
 q*d1+r=u/\(u*B+u1)/(d1*B+d0)<=q/\q<B/\r<B
theorem UE(a:0<d1)(f:d1<B)(j:u1<B)(d:u<d1*B):LX B u u1 d1 d0 (u/d1) (u%d1):=by
 have g:=Cb u d1;have i:u%d1<d1:=A7 _ a;have e:d1*(u/d1)=u/d1*d1:=As _ _;have hp:0<d1*B:=DO a J;refine⟨J,?_,?_,J⟩
 . apply C7;rw[AX J,Nat.succ_eq_add_one];have b:(u/d1+1)*(d1*B+d0)=(u/d1*d1+d1)*B+(u/d1+1)*d0:=by grind
   rw[b];have c:(u+1)*B<=(u/d1*d1+d1)*B:=Ak _ J;rw[Ay,Cw]at c;generalize (u/d1+1)*d0=z;omega
 . rw[AX a,As];exact d
theorem NI(a:q*d1+r=u)(b:(u*B+u1)/(d1*B+d0)<=q)(d:0<d1*B)(c:q*d0<=r*B+u1):q=(u*B+u1)/(d1*B+d0):=by
 apply Fqq _ b;rw[Fu J,Ax,<-Az,<-a,Ay];omega
theorem UF(h:LX B u u1 d1 d0 q r)(i:0<d1*B)(c:r*B+u1<q*d0):
 1<=q/\(q-1)*d1+(r+d1)=u/\(u*B+u1)/(d1*B+d0)<=q-1/\q-1<B:=by
 obtain⟨b,d,f,g⟩:=h;have hq:1<=q:=by
  rcases AY q with a|a
  . rw[a]at c;omega
  . exact a
 have e:(q-1)*d1+d1=q*d1:=by
  rw[<-Nat.succ_mul];congr 1;omega
 refine⟨hq,J,?_,J⟩;apply C7;rw[Nat.succ_eq_add_one,Nat.sub_add_cancel hq,AX J,Ax,<-Az,<-b,Ay];omega
theorem UG(a:q*d1+r=u)(b:(u*B+u1)/(d1*B+d0)<=q)(f:q<B)(e:d0<B)(c:0<d1*B)(d:B<=r):q=(u*B+u1)/(d1*B+d0):=by
 apply NI a b c;have g:q*d0<=B*d0:=Ak _ J;have i:B*d0<=B*B:=Av _ J;have j:B*B<=r*B:=Ak _ d;omega
def Gz(R V g:Nat):Prop:=R<(g+1)*V/\g*V<=R+V
theorem UH{T:Nat}(c:R=T*E+lo)(a:V=o*E+lo2)(k:lo<E)(l:lo2<E)(p:T/o<=o)(i:0<o):Gz R V (T/o):=by
 have m:=Cb T o;have n:=A7 T i;generalize T/o=g at *;generalize T%o=t at *;have d:(T+1)*E<=(o*g+o)*E:=Ak _ J;have e:(g+1)*V=(o*g+o)*E+(g+1)*lo2:=by rw[a];grind
 have j:g*lo2<=g*E:=Av _ J;have b:(o*g+g)*E<=(T+o)*E:=Ak _ J;have f:g*V=o*g*E+g*lo2:=by rw[a];grind
 rw[Ay]at d b;refine⟨?_,?_⟩
 . rw[e,c];generalize (g+1)*lo2=z;omega
 . rw[f,c,a];rw[Ay]at b;omega
theorem UI(a:R=d1*(B*E)+lo)(d:V=d1*E+lo2)(i:lo2<E)(k:B<=2*d1)(b:R<V*B)(j:2<=B):Gz R V (B-1):=by
 refine⟨by rw[Nat.sub_add_cancel J,As];exact b,?_⟩;obtain⟨c,rfl⟩:∃c,B=c+2:=⟨B-2,J⟩;rw[show c+2-1=c+1 from by omega,Ay,Cw];apply Nat.add_le_add_right;rw[a,d,Ax];have e:c*lo2<=c*E:=Av _ J;have f:c*E<=2*d1*E:=Ak _ J;have g:d1*((c+2)*E)=c*(d1*E)+2*d1*E:=by grind
 omega
theorem UJ(h:Gz R V g)(hq:q+V*g=R):g=R/V/\q=R%V:=by
 have c:g*V=V*g:=As _ _;have b:=h.1;rw[Ay,Cw]at b;have a:q<V:=J
 rw[<-hq];exact⟨by rw[Ff _ _ J,Ca a,A8],by rw[CR,Cm a]⟩
theorem UK{P q2 c2:Nat}(h:Gz R V g)(hq:q+V*g=R+P)(n:q<P)(l:q2+P*c2=q+V)(m:q2<P)(j:c2<=1):1<=g/\g-1=R/V/\q2=R%V:=by
 have i:=h.2;have k:g*V=V*g:=As _ _;have c:1<=g:=by
  rcases AY g with a|a
  . rw[a]at hq;omega
  . exact a
 have e:V*(g-1)+V=V*g:=by rw[<-Nat.mul_succ];congr 1;omega
 have f:c2=1:=by
  rcases(by omega:c2=0\/c2=1)with a|a
  . subst a;omega
  . exact a
 subst f;have d:q2+V*(g-1)=R:=J
 have b:q2<V:=J
 rw[<-d];exact⟨c,by rw[Ff _ _ J,Ca b,A8],by rw[CR,Cm b]⟩
def Xl(x y:Nat):Nat:=(x-y)+(y-x)
def GV(H L:Nat)(s:Int)(h l c nb b a:Nat):Prop:=
 (s=1\/s=-1)/\H=nb*l+a*h/\L=c*l+b*h/\(c:Int)*a-nb*b=s/\b<=a/\c+b<=nb+a/\1<=a/\l<=h
theorem GV.start(h:L<=H):GV H L 1 H L 1 0 0 1:=
 ⟨Or.inl rfl,J,J,J,J,J,J,h⟩
theorem GV.step{l:Nat}(hs:GV H L s h l o nb v w)(hl:1<=l):
 GV H L (-s) l (h%l) v w (o+h/l*v) (nb+h/l*w):=by
 obtain⟨k,b,c,d,a,m,n,p⟩:=hs;have e:=Cb h l;have hq:1<=h/l:=(Fu J).2 J;have t:h%l<l:=A7 _ J;generalize h/l=q at *;generalize h%l=r at *;subst e;have g:q*v<=q*w:=Av q a;have i:(q-1)*v<=(q-1)*w:=Av _ a;have j:(q-1)*v+v=q*v:=by
  rw[<-Nat.succ_mul];congr 1;omega
 have f:(q-1)*w+w=q*w:=by
  rw[<-Nat.succ_mul];congr 1;omega
 refine⟨J,by rw[b];grind,by rw[c];grind,?_,J,J,J,J⟩;rw[<-d];push_cast
 grind
theorem GV.small{l:Nat}(hs:GV H L s h l o nb v w)(hl:1<=l):nb+w<=H/\o+v<=L:=by
 obtain⟨e,f,g,i,j,k,m,n⟩:=hs;have a:nb<=nb*l:=CB nb hl;have b:w<=w*h:=CB w J;have c:o<=o*l:=CB o hl;have d:v<=v*h:=CB v J;omega
def Hk(A B b c a nb:Nat):Prop:=
 A=c*Xl (a*A) (nb*B)+nb*Xl (b*A) (c*B)/\B=b*Xl (a*A) (nb*B)+a*Xl (b*A) (c*B)/\
 Xl (a*A) (nb*B)<Xl (b*A) (c*B)/\1<=nb
theorem PE{x:Nat}(a:0<=z)(h:z=(x:Int)-y\/z=(y:Int)-x):(Xl x y:Int)=z:=by
 unfold Xl;omega
theorem GV.out{S al be l:Nat}(hs:GV H L s h l o nb v w)(F:A=H*S+al)(G:B=L*S+be)(p:al<S)(q:be<S)
(hl:w<=l)(I:nb+w<=h-l):Hk A B o nb v w:=by
 obtain⟨b,y,z,d,C,D,E,K⟩:=hs;have k:(H:Int)=nb*l+w*h:=by rw[y];push_cast;rfl
 have m:(L:Int)=o*l+v*h:=by rw[z];push_cast;rfl
 have i:(A:Int)=H*S+al:=by rw[F];push_cast;rfl
 have j:(B:Int)=L*S+be:=by rw[G];push_cast;rfl
 have c:s*s=1:=by rcases b with rfl|rfl<;>rfl
 obtain⟨X,e⟩:∃X:Int,X=s*(o*A-nb*B):=⟨_,rfl⟩;obtain⟨a,f⟩:∃a:Int,a=-s*(v*A-w*B):=⟨_,rfl⟩;have x1:X=(h:Int)*S+s*(o*al-nb*be):=by
  have:X=(s*(o*w-nb*v))*h*S+s*(o*al-nb*be):=by rw[e,i,j,k,m];grind
  rw[this,d,c];grind
 have r:a=(l:Int)*S-s*(v*al-w*be):=by
  have:a=(s*(o*w-nb*v))*l*S-s*(v*al-w*be):=by rw[f,i,j,k,m];grind
  rw[this,d,c];grind
 have c1:(v:Int)*al<=w*al:=by exact_mod_cast Ak al C
 have c2:(w:Int)*al<w*S:=by exact_mod_cast Ft p J
 have c3:(w:Int)*be<w*S:=by exact_mod_cast Ft q J
 have c4:(w:Int)*S<=l*S:=by exact_mod_cast Ak S hl
 have d1:((o+v:Nat):Int)*al<=(nb+w:Nat)*al:=by exact_mod_cast Ak al D
 have t:((nb+w:Nat):Int)*al<(nb+w:Nat)*S:=by exact_mod_cast Ft p J
 have u:((nb+w:Nat):Int)*be<(nb+w:Nat)*S:=by exact_mod_cast Ft q J
 have g:((nb+w:Nat):Int)*S<=(h-l:Nat)*S:=by exact_mod_cast Ak S I
 have x:((h-l:Nat):Int)=h-l:=J
 rw[x]at g;simp only[Int.natCast_add,Int.add_mul,Int.sub_mul]at d1 t u g;have P:(0:Int)<=w*be:=by exact_mod_cast AK _
 have Q:(0:Int)<=v*al:=by exact_mod_cast AK _
 have R:(0:Int)<=o*al:=by exact_mod_cast AK _
 have T:(0:Int)<=nb*be:=by exact_mod_cast AK _
 have N:0<a:=by
  rw[r];rcases b with rfl|rfl<;>omega
 have M:a<X:=by
  rw[x1,r];rcases b with rfl|rfl<;>omega
 have ex:(Xl (o*A) (nb*B):Int)=X:=PE J (by push_cast;rw[e];rcases b with rfl|rfl<;>omega);have n:(Xl (v*A) (w*B):Int)=a:=PE J (by push_cast;rw[f];rcases b with rfl|rfl<;>omega);refine⟨?_,?_,J,E⟩
 . have:(A:Int)=nb*a+w*X:=by
    have:(nb:Int)*a+w*X=(s*(o*w-nb*v))*A:=by rw[e,f];grind
    rw[this,d,c];omega
   rw[<-ex,<-n]at this;exact_mod_cast this
 . have:(B:Int)=o*a+v*X:=by
    have:(o:Int)*a+v*X=(s*(o*w-nb*v))*B:=by rw[e,f];grind
    rw[this,d,c];omega
   rw[<-ex,<-n]at this;exact_mod_cast this
theorem Hk.gcd{A B d e c nb:Nat}(h:Hk A B d e c nb):Nat.gcd (Xl (d*A) (e*B)) (Xl (c*A) (nb*B))=Nat.gcd A B:=by
 obtain⟨i,j,_,_⟩:=h;apply Nat.dvd_antisymm
 . have a:=FO (Xl (d*A) (e*B)) (Xl (c*A) (nb*B));have b:=Fh (Xl (d*A) (e*B)) (Xl (c*A) (nb*B));generalize Nat.gcd (Xl (d*A) (e*B)) (Xl (c*A) (nb*B))=g at *;apply Nat.dvd_gcd
   . rw[i];exact Nat.dvd_add (CA b _) (CA a _)
   . rw[j];exact Nat.dvd_add (CA b _) (CA a _)
 . have a:=FO A B;have b:=Fh A B;generalize Nat.gcd A B=g at *;have f:∀x y:Nat,g∣Xl (x*A) (y*B):=λx y=>by
    unfold Xl;exact Nat.dvd_add (Nat.dvd_sub (CA a _) (CA b _)) (Nat.dvd_sub (CA b _) (CA a _))
   exact Nat.dvd_gcd (f _ _) (f _ _)
theorem Hk.less(h:Hk A B o v w nb)(hp:v≠0)(g:0<B):Xl (o*A) (v*B)+Xl (w*A) (nb*B)<A+B:=by
 obtain⟨c,d,e,f⟩:=h;have a:Xl (w*A) (nb*B)<=v*Xl (w*A) (nb*B):=CQ _ J;have b:Xl (o*A) (v*B)<=nb*Xl (o*A) (v*B):=CQ _ J;omega
