import Init
import Derived.Test.YteldjhhjnchdeaaGreatDoorW01
set_option maxRecDepth 100000
set_option maxHeartbeats 16000000
namespace Go.Proofs.YteldjhhjnchdeaaGreatDoor
theorem Bz:type_of% @UInt8.toNat_inj:=@UInt8.toNat_inj
theorem Bu:type_of% @decide_eq_false_iff_not:=@decide_eq_false_iff_not
theorem Bo:type_of% @congrArg:=@congrArg
theorem Bk:type_of% @decide_eq_true_eq:=@decide_eq_true_eq
def val(B:Nat):List Nat->Nat
 |[]=>0
 |d::ds=>d+B*val B ds
def DN(B:Nat)(ds:List Nat):Prop:=∀d∈ds,d<B
def Jg(B n:Nat):List Nat:=
 if _h:n=0\/B<2 then []else n%B::Jg B (n/B)
termination_by n
decreasing_by
 have a:n≠0:=λe=>_h (Or.inl e);have _h2:¬B<2:=λe=>_h (Or.inr e);exact Nat.div_lt_self Z Z
def JI:List Nat->List Nat
 |[]=>[]
 |d::ds=>match JI ds with
  |[]=>if d=0 then []else [d]
  |e::es=>d::e::es
variable{s:Int}{a b ds:List Nat}{l:List UInt8}{A B E H L R V d d0 d1 g h i j k lo lo2 m n nb o p q r u u1 v w y:Nat}{c:UInt8}{f:UInt8->Bool}
theorem DN.nil(B:Nat):DN B []:=λ_ h=>by cases h
theorem DN.cons(h:d<B)(k:DN B ds):DN B (d::ds):=λx a=>by
 rcases List.mem_cons.1 a with rfl|a
 . exact h
 . exact k x a
theorem DN.head(h:DN B (d::ds)):d<B:=h d (CF ..)
theorem DN.tail(h:DN B (d::ds)):DN B ds:=λx a=>h x (List.mem_cons_of_mem _ a)
theorem DN.append(h:DN B a)(k:DN B b):DN B (a++b):=λx c=>by
 rcases C7.1 c with c|c
 . exact h x c
 . exact k x c
theorem Li(B:Nat):val B []=0:=rfl
theorem J2(B d:Nat)(ds:List Nat):val B (d::ds)=d+B*val B ds:=rfl
theorem val_append(B:Nat):∀(a b:List Nat),val B (a++b)=val B a+B^a.length*val B b
 |[],b=>by simp[val]
 |d::a,b=>by
  simp only[AE,J2,val_append B a b,Ao,AY];rw[AO,Av (B^a.length) B,AG,Fe]
theorem Yv{B:Nat}:∀ {ds:List Nat},DN B ds->val B ds<B^ds.length
 |[],_=>by simp[val]
 |d::ds,h=>by
  have b:=h.head;have a:=Yv h.tail;simp only[J2,Ao,AY];have c:B*val B ds+B<=B*B^ds.length:=by
   rw[<-Nat.mul_succ];exact As _ a
  rw[Av (B^ds.length) B];omega
theorem JF(B:Nat):Jg B 0=[]:=by rw[Jg];simp
theorem Xm(b:2<=B)(a:n≠0):Jg B n=n%B::Jg B (n/B):=by
 rw[Jg];rw[dif_neg];intro h;rcases h with h|h
 . exact a h
 . omega
theorem Js(b:2<=B)(n:Nat):val B (Jg B n)=n:=by
 induction n using Nat.strongRecOn with
 |ind n c=>
  by_cases a:n=0
  . subst a;rw[JF];rfl
  . rw[Xm b a,J2,c _ (Nat.div_lt_self Z Z)];exact Nat.mod_add_div n B
theorem Ju(b:2<=B)(n:Nat):DN B (Jg B n):=by
 induction n using Nat.strongRecOn with
 |ind n c=>
  by_cases a:n=0
  . subst a;rw[JF];exact DN.nil B
  . rw[Xm b a];exact DN.cons (Cl _ Z) (c _ (Nat.div_lt_self Z Z))
theorem JL(a:2<=B):Jg B n=[]↔n=0:=by
 constructor
 . intro h;have:=Js a n;rw[h]at this;exact this.symm
 . intro h;rw[h,JF]
theorem Yz(h:JI ds=[]):JI (d::ds)=if d=0 then []else [d]:=by
 simp only[JI,h]
theorem YQ(h:JI ds≠[]):JI (d::ds)=d::JI ds:=by
 simp only[JI];cases a:JI ds with
 |nil=>exact absurd a h
 |cons e b=>rfl
theorem Lj(B:Nat):∀(ds:List Nat),val B (JI ds)=val B ds
 |[]=>rfl
 |d::ds=>by
  by_cases h:JI ds=[]
  . have:=Lj B ds;rw[h]at this;rw[Yz h,J2,<-this];by_cases a:d=0
    . simp[a,val]
    . simp[a,val]
  . rw[YQ h,J2,J2,Lj B ds]
theorem Yk{B:Nat}(j:2<=B):∀ {ds:List Nat},DN B ds->Jg B (val B ds)=JI ds
 |[],_=>by rw[Li,JF];rfl
 |d::ds,h=>by
  have i:=h.head;have g:=Yk j h.tail;rw[J2];by_cases f:d+B*val B ds=0
  . have c:d=0:=Z
    have e:val B ds=0:=by
     rcases Ca (val B ds)with b|b
     . exact b
     . have:0<B*val B ds:=FK Z b;omega
    rw[e,JF]at g;rw[f,JF,Yz g.symm,BJ c]
  . rw[Xm j f];have k:(d+B*val B ds)%B=d:=by rw[CL];exact Cm i
    have l:(d+B*val B ds)/B=val B ds:=by
     rw[C5 _ _ Z,Ch i,A9]
    rw[k,l,g];by_cases a:JI ds=[]
    . rw[Yz a,a];have e:val B ds=0:=by rw[<-Lj B ds,a];rfl
      rw[BH];intro c;apply f;rw[c,e];simp
    . rw[YQ a]
def FO(ds:List Nat):Prop:=JI ds=ds
theorem Xn(a:2<=B)(n:Nat):FO (Jg B n):=by
 have h:=Yk a (Ju a n);rw[Js a]at h;exact h.symm
theorem Lk(a:2<=B)(h:DN B ds)(b:FO ds):Jg B (val B ds)=ds:=(Yk a h).trans b
theorem Ll:∀(ds:List Nat) {d:Nat},d≠0->JI (ds++[d])=ds++[d]
 |[],d,h=>by simp[JI,h]
 |e::ds,d,h=>by
  have a:=Ll ds h;rw[AE,YQ (by rw[a];simp),a]
theorem X0:∀(ds:List Nat),JI (ds++[0])=JI ds
 |[]=>by simp[JI]
 |e::ds=>by
  have a:=X0 ds;by_cases h:JI ds=[]
  . rw[AE,Yz (by rw[a];exact h),Yz h]
  . rw[AE,YQ (by rw[a];exact h),YQ h,a]
theorem Np(ds:List Nat)(k:Nat)(n:k<=ds.length)(a:∀j,k<=j->j<ds.length->ds[j]?=some 0):JI (ds.take k)=JI ds:=by
 obtain⟨m,f⟩:∃m,ds.length=k+m:=⟨ds.length-k,Z⟩;induction m generalizing ds with
 |zero=>rw[Ag Z]
 |succ m g=>
  have hl:ds=ds.take (k+m)++[0]:=by
   apply List.ext_getElem?;intro i;by_cases d:i<k+m
   . rw[A5 (by rw[Ap];omega),AX d]
   . by_cases e:i=k+m
     . subst e;rw[AW (by rw[Ap];omega),a _ Z Z];simp[List.length_take,f]
     . rw[AP Z,AP];simp[List.length_take];omega
  have b:(ds.take (k+m)).length=k+m:=by rw[Ap];omega
  have:=g (ds.take (k+m)) Z (by
   intro j c l;rw[AX Z];exact a j c Z) b
  rw[List.take_take,CJ Z]at this;rw[this];conv=>rhs;rw[hl]
  rw[X0]
theorem Rx(ds:List Nat)(k:Nat)(a:k<ds.length)(d:ds[k]?≠some 0)(b:∀j,k<j->j<ds.length->ds[j]?=some 0):JI ds=ds.take (k+1):=by
 rw[<-Np ds (k+1) Z λj f c=>b j Z c];rw[Cq a];refine Ll _ ?_;intro e;apply d;rw[An a,e]
theorem Ry(ds:List Nat)(a:∀j,j<ds.length->ds[j]?=some 0):JI ds=[]:=by
 have:=Np ds 0 Z λj _ h=>a j h;rw[<-this];simp[JI]
theorem Lm:∀(ds:List Nat),(JI ds).length<=ds.length
 |[]=>by simp[JI]
 |d::ds=>by
  have:=Lm ds;by_cases a:JI ds=[]
  . rw[Yz a];split<;>simp
  . rw[YQ a];simp;omega
theorem JX(b:2<=B)(h:n<B^k):(Jg B n).length<=k:=by
 induction k generalizing n with
 |zero=>
  have:n=0:=by simp at h;exact h
  rw[this,JF];simp
 |succ k c=>
  by_cases a:n=0
  . rw[a,JF];simp
  . rw[Xm b a,Ao];have:n/B<B^k:=by
     apply Nat.div_lt_of_lt_mul;rw[Av,<-AY];exact h
    have:=c this;omega
theorem Nq(b:2<=B)(h:(Jg B n).length=k+1):B^k<=n:=by
 rcases AZ n (B^k)with a|a
 . have:=JX b a;omega
 . exact a
theorem X1(a:2<=B)(h:(Jg B m).length<(Jg B n).length):m<n:=by
 have b:m<B^(Jg B m).length:=by
  have:=Yv (Ju a m);rwa[Js a]at this
 have c:B^((Jg B n).length-1)<=n:=Nq a Z;have d:B^(Jg B m).length<=B^((Jg B n).length-1):=Az Z Z;omega
def Xu(m n:Nat):Int:=if m<n then -1 else if n<m then 1 else 0
theorem Nr(m:Nat):Xu m m=0:=by simp[Xu]
theorem Hc(h:m<n):Xu m n=-1:=by simp[Xu,h]
theorem Ih(h:n<m):Xu m n=1:=by
 have:¬m<n:=Z
 simp[Xu,h,this]
theorem Ns(ds:List Nat)(k:Nat)(a:k<ds.length):val B ds=val B (ds.take k)+B^k*(ds[k]?.getD 0+B*val B (ds.drop (k+1))):=by
 have b:ds=ds.take k++(ds[k]?.getD 0::ds.drop (k+1)):=by
  rw[An a];conv=>lhs;rw[<-Ci k ds,A6 a]
  rfl
 have c:(ds.take k).length=k:=by rw[Ap];omega
 conv=>lhs;rw[b]
 rw[val_append,J2,c]
theorem DN.take{B:Nat}{ds:List Nat}(h:DN B ds)(k:Nat):DN B (ds.take k):=λx a=>h x (FF a)
theorem DN.drop{B:Nat}{ds:List Nat}(h:DN B ds)(k:Nat):DN B (ds.drop k):=λx a=>h x (List.mem_of_mem_drop a)
theorem DN.get(h:DN B ds)(a:k<ds.length):ds[k]?.getD 0<B:=by
 rw[An a];exact h _ (List.getElem_mem a)
theorem DN.getD{B:Nat}{ds:List Nat}(h:DN B ds)(b:0<B)(k:Nat):ds[k]?.getD 0<B:=by
 rcases AZ k ds.length with a|a
 . exact h.get a
 . rw[AP a];exact b
theorem Nt(e:DN B a)(hl:a.length=b.length)(k:Nat)(g:k<a.length)(f:a.drop (k+1)=b.drop (k+1))(h:a[k]?.getD 0<b[k]?.getD 0):val B a<val B b:=by
 rw[Ns a k g,Ns b k Z,<-f];have c:=Yv (e.take k);have d:(a.take k).length=k:=by rw[Ap];omega
 rw[d]at c;have i:B^k*(a[k]?.getD 0+B*val B (a.drop (k+1)))+B^k<=B^k*(b[k]?.getD 0+B*val B (a.drop (k+1))):=by
  rw[<-Nat.mul_succ];exact As _ Z
 omega
theorem Rz(hl:a.length=b.length)(k:Nat)(c:k<a.length)(d:a.drop (k+1)=b.drop (k+1))(h:a[k]?.getD 0=b[k]?.getD 0):a.drop k=b.drop k:=by
 rw[A6 c,A6 (by omega:k<b.length),d];rw[An c,An (by omega:k<b.length)]at h;exact Bo (·::_) h
theorem Y7(c:2<=B)(d:DN B a)(e:DN B b)(ta:FO a)(tb:FO b)(h:a.length<b.length):val B a<val B b:=by
 apply X1 c;rw[Lk c d ta,Lk c e tb];exact h
theorem Jv(B:Nat)(ds:List Nat)(k:Nat):val B (ds.take (k+1))=val B (ds.take k)+B^k*ds[k]?.getD 0:=by
 rcases AZ k ds.length with h|h
 . rw[Cq h,val_append,Ap,CJ Z,An h];simp[val]
 . rw[Ag Z,Ag h,AP h];simp
theorem Xv(B:Nat)(ds:List Nat)(d:Nat):val B (ds++[d])=val B ds+B^ds.length*d:=by
 rw[val_append];simp[val]
theorem Lo(a:2<=B)(h:(Jg B n).length=k)(b:k≠0):B^(k-1)<=n:=Nq a Z
def F0(d:Nat):UInt8:=UInt8.ofNat (48+d)
def Eb(ds:List Nat):List UInt8:=(ds.map F0).reverse
def X2(n:Nat):List UInt8:=if n=0 then [48]else Eb (Jg 10 n)
def EC(z:Int):List UInt8:=if z<0 then 45::X2 z.natAbs else X2 z.natAbs
theorem R1(ds:List Nat)(d:Nat):Eb (ds++[d])=F0 d::Eb ds:=by simp[Eb]
theorem Nu(ds:List Nat):(Eb ds).length=ds.length:=by simp[Eb]
theorem Lp(h:n≠0):X2 n=Eb (Jg 10 n):=by simp[X2,h]
def DW(c:UInt8):Bool:=decide (48<=c.toNat)&&decide (c.toNat<=57)
def Dx(l:List UInt8):List Nat:=(l.map λc=>c.toNat-48).reverse
def num(l:List UInt8):Nat:=val 10 (Dx l)
def JM(l:List UInt8):List UInt8:=if l.head?=some 45 then l.tail else l
def good(l:List UInt8):Bool:=decide (l.length<=2000) && !(JM l).isEmpty&&(!decide ((JM l).head?=some 48) || decide (l=[48]))&&(JM l).all DW
def YX(l:List UInt8):Int:=if l.head?=some 45 then -(num (JM l):Int)else num (JM l)
theorem YL(h:DW c=true):48<=c.toNat/\c.toNat<=57:=by simpa[DW]using h
theorem XF(h:d<10):(F0 d).toNat=48+d:=by
 unfold F0;rw[UInt8.toNat_ofNat'];omega
theorem R2(h:DW c=true):F0 (c.toNat-48)=c:=by
 have a:=YL h;apply Bz.1;rw[XF Z];omega
theorem R3(l:List UInt8)(c:UInt8):Dx (l++[c])=(c.toNat-48)::Dx l:=by simp[Dx]
theorem Lq(l:List UInt8)(c:UInt8):num (l++[c])=(c.toNat-48)+10*num l:=by rw[num,R3,J2];rfl
theorem R4(a b:List UInt8):Dx (a++b)=Dx b++Dx a:=by simp[Dx]
theorem Ii(l:List UInt8):(Dx l).length=l.length:=by simp[Dx]
theorem Ij(a b:List UInt8):num (a++b)=num b+10^b.length*num a:=by rw[num,R4,val_append,Ii];rfl
theorem KT(h:l.all DW=true):DN 10 (Dx l):=by
 intro d a;simp only[Dx,List.mem_reverse,FG]at a;obtain⟨c,b,rfl⟩:=a;have:=YL (A1.1 h c b);omega
theorem R5(h:l.all DW=true):Eb (Dx l)=l:=by
 simp only[Eb,Dx,List.map_reverse,List.reverse_reverse,List.map_map];conv=>rhs;rw[<-List.map_id l]
 apply List.map_congr_left;intro c a;exact R2 (A1.1 h c a)
theorem R6(b:DW c=true)(a:c≠48):FO (Dx (c::l)):=by
 have e:Dx (c::l)=Dx l++[c.toNat-48]:=by simp[Dx]
 rw[e];refine Ll _ ?_;have:=YL b;intro h;apply a;apply Bz.1;show c.toNat=48;omega
theorem Lr(h:(c::l).all DW=true)(b:c≠48):X2 (num (c::l))=c::l/\num (c::l)≠0:=by
 have d:DW c=true:=A1.1 h c (CF ..);have e:=Lk (B:=10) Z (KT h) (R6 d b);have a:num (c::l)≠0:=by
  intro f;rw[show val 10 (Dx (c::l))=0 from f,JF]at e;have:=Bo List.length e;rw[Ii]at this;simp at this
 refine⟨?_,a⟩;rw[Lp a,num,e,R5 h]
theorem R7(h:good l=true):EC (YX l)=l:=by
 simp only[good,Co,Bk,Fj,CO,Bu]at h;obtain⟨⟨⟨_,g⟩,i⟩,f⟩:=h;cases a:JM l with
 |nil=>rw[a]at g;simp at g
 |cons c t=>
  rw[a]at i f;by_cases d:c=48
  . have hl:l=[48]:=by
     rcases i with h|h
     . exact absurd (by rw[d];rfl) h
     . exact h
    subst hl;simp[YX,JM,EC,X2,num,Dx,val]
  . obtain⟨e,j⟩:=Lr f d;by_cases b:l.head?=some 45
    . have hl:l=45::c::t:=by
       cases l with
       |nil=>simp at b
       |cons x l'=>
        simp at b;subst b;simp[JM]at a;rw[a]
      rw[YX,BJ b,a,EC,BJ Z,FM,AC,e,hl]
    . have hl:l=c::t:=by rw[<-a,JM,BH b]
      rw[YX,BH b,a,EC,BH Z,AC,e,hl]
theorem R8(h:DN 10 ds):(Eb ds).all DW=true:=by
 rw[A1];intro c a;simp only[Eb,List.mem_reverse,FG]at a;obtain⟨d,b,rfl⟩:=a;have:=h d b;simp[DW,XF this];omega
theorem R9(h:DN 10 ds):num (Eb ds)=val 10 ds:=by
 have e:Dx (Eb ds)=ds:=by
  simp only[Eb,Dx,List.map_reverse,List.reverse_reverse,List.map_map];conv=>rhs;rw[<-List.map_id ds]
  apply List.map_congr_left;intro d a;have:=h d a;simp[XF this]
 rw[num,e]
theorem Nv(j:n≠0):∃c t,X2 n=c::t/\c≠48/\c≠45/\(c::t).all DW=true/\num (c::t)=n:=by
 have a:=Ju (B:=10) Z n;have k:=Xn (B:=10) Z n;have q:=Js (B:=10) Z n;have m:Jg 10 n≠[]:=by rw[Ne,JL Z];exact j
 have f:=R8 a;have b:=R9 a;have e:X2 n=Eb (Jg 10 n):=Lp j;rw[q]at b;obtain⟨ds,d,p⟩:∃ds d,Jg 10 n=ds++[d]:=⟨_,_,(List.dropLast_concat_getLast m).symm⟩;rw[p]at f b e k a;rw[R1]at f b e;have r:d≠0:=by
  intro o;subst o;have g:(JI (ds++[0])).length<=ds.length:=by rw[X0];exact Lm ds
  rw[k]at g;simp at g;omega
 have l:d<10:=a d J;have i:=XF l;refine⟨F0 d,Eb ds,e,?_,?_,f,b⟩
 . intro h;rw[h]at i;have:(48:UInt8).toNat=48:=rfl;omega
 . intro h;rw[h]at i;have:(45:UInt8).toNat=45:=rfl;omega
theorem SA(a:10<=B):(Jg B n).length<=(Jg 10 n).length:=by
 refine JX Z ?_;have h:=Yv (Ju (B:=10) Z n);rw[Js Z]at h;exact AJ h (CM a _)
theorem SB(h:good l=true)(b:10<=B):(Jg B (YX l).natAbs).length<=2000:=by
 have e:=R7 h;have hl:l.length<=2000:=by
  simp only[good,Co,Bk]at h;exact h.1.1.1
 rw[<-e]at hl;refine Aw (SA b) ?_;by_cases a:(YX l).natAbs=0
 . rw[a,JF];simp
 . have c:(X2 (YX l).natAbs).length=(Jg 10 (YX l).natAbs).length:=by rw[Lp a,Nu]
   unfold EC at hl;split at hl
   . simp at hl;omega
   . omega
def Xc(f:UInt8->Bool)(l:List UInt8)(i:Nat):Nat:=i+((l.drop i).takeWhile f).length
def DS(l:List UInt8)(i:Nat):Nat:=Xc (·==32) l i
def Ee(l:List UInt8)(i:Nat):Nat:=Xc DW l i
theorem SC(e:n<=l.length)(a:∀k (h:k<n),f l[k]=true)(b:∀h:n<l.length,f l[n]=false):(l.takeWhile f).length=n:=by
 induction l generalizing n with
 |nil=>simp at e ⊢;omega
 |cons c t g=>
  cases n with
  |zero=>
   have:=b J;simp at this;rw[List.takeWhile_cons_of_neg (by simp[this])];rfl
  |succ n=>
   have:=a 0 Z;simp at this;rw[List.takeWhile_cons_of_pos this,Ao,g (n:=n) (by simpa using e) (λk d=>a (k+1) Z) λd=>b (by simpa using d)]
theorem KU(d:i<=j)(g:j<=l.length)(b:∀k (h:k<l.length),i<=k->k<j->f l[k]=true)(c:∀h:j<l.length,f l[j]=false):Xc f l i=j:=by
 unfold Xc;rw[SC (n:=j-i) (by rw[AV];omega)]
 . omega
 . intro k a;rw[C6];exact b _ _ Z Z
 . intro a;rw[C6];rw[AV]at a;have e:i+(j-i)=j:=Z
   have:=c Z;simp only[e];exact this
theorem Ls(f:UInt8->Bool)(l:List UInt8):(l.takeWhile f).length<=l.length/\(∀k (h:k<l.length),k<(l.takeWhile f).length->f l[k]=true)/\∀h:(l.takeWhile f).length<l.length,f (l[(l.takeWhile f).length]'h)=false:=by
 induction l with
 |nil=>simp
 |cons c t d=>
  by_cases a:f c=true
  . rw[List.takeWhile_cons_of_pos a];refine⟨by simp only[Ao];omega,λk b h=>?_,λh=>?_⟩
    . cases k with
      |zero=>simpa using a
      |succ k=>simpa using d.2.1 k (by simpa using b) (by simpa using h)
    . simp only[Ao,List.getElem_cons_succ];exact d.2.2 (by simpa using h)
  . rw[List.takeWhile_cons_of_neg (by simpa using a)];refine⟨J,λk b h=>by simp at h,λh=>by simpa using a⟩
theorem Lt(f:UInt8->Bool)(l:List UInt8)(i:Nat):i<=Xc f l i:=Nat.le_add_right _ _
theorem Lu(a:i<=l.length):Xc f l i<=l.length:=by
 have:=(Ls f (l.drop i)).1;rw[AV]at this;unfold Xc;omega
theorem SF(b:i<=k)(a:k<Xc f l i)(h:k<l.length):f l[k]=true:=by
 have:=(Ls f (l.drop i)).2.1 (k-i) (by rw[AV];omega) (by unfold Xc at a;omega);rw[C6]at this;have e:i+(k-i)=k:=Z
 simpa only[e]using this
theorem Lv(h:Xc f l i<l.length):f (l[Xc f l i]'h)=false:=by
 have a:((l.drop i).takeWhile f).length<(l.drop i).length:=by
  rw[AV];unfold Xc at h;omega
 have:=(Ls f (l.drop i)).2.2 a;rw[C6]at this;exact this
theorem SG(f:UInt8->Bool)(l:List UInt8)(i:Nat):Xc f l (Xc f l i)=Xc f l i:=by
 rcases AZ (Xc f l i) l.length with h|h
 . exact KU (Aa _) Z (λk _ b c=>by omega) λa=>Lv a
 . unfold Xc;rw[show i+((l.drop i).takeWhile f).length=Xc f l i from rfl,A2 h];rfl
def Y8(l:List UInt8)(j:Nat)(c:UInt8):Bool:=l[j]?==some c
inductive Rd(α:Type)
 |bad(e:Nat)(at_:Nat)
 |ok(a:α)(k:Nat)
def Xs(l:List UInt8)(i:Nat):Rd (List UInt8 × Nat):=
 if Ee l (DS l i)=DS l i then .bad 2 (DS l i)
 else if 12<Ee l (DS l i)-DS l i then .bad 3 (DS l i)
 else .ok (((l.drop (DS l i)).take (Ee l (DS l i)-DS l i)),DS l i) (Ee l (DS l i))
def YH(l:List UInt8)(i:Nat):Rd Rat:=
 match Xs l i with
 |.bad e p=>.bad e p
 |.ok (ds,_) k=>
  if Y8 l (DS l k) 47 then
   match Xs l (DS l k+1)with
   |.bad e p=>.bad e p
   |.ok (a,p) m=>if num a=0 then .bad 4 p else .ok (Rat.divInt (num ds) (num a)) m
  else .ok ((num ds:Int):Rat) (DS l k)
def EM(l:List UInt8)(i:Nat):Rd Nat:=
 if Y8 l (DS l i) 94 then
  match Xs l (DS l i+1)with
  |.bad e p=>.bad e p
  |.ok (ds,p) k=>if 8<num ds then .bad 3 p else .ok (num ds) k
 else .ok 1 (DS l i)
def Ew(l:List UInt8)(j:Nat):Bool:=(l[j]?.map DW).getD false
def Yx(l:List UInt8)(i:Nat):Rd (Rat × Nat):=
 if Ew l (DS l i)then
  match YH l (DS l i)with
  |.bad e p=>.bad e p
  |.ok c k=>
   if Y8 l (DS l k) 120 then
    match EM l (DS l k+1)with
    |.bad e p=>.bad e p
    |.ok n m=>.ok (c,n) m
   else .ok (c,0) (DS l k)
 else if Y8 l (DS l i) 120 then
  match EM l (DS l i+1)with
  |.bad e p=>.bad e p
  |.ok n m=>.ok (1,n) m
 else .bad 2 (DS l i)
def ET(l:List UInt8):Nat->Bool->Nat->List Rat->Rd (List Rat)
 |0,_,i,_=>.bad 0 i
 |f+1,b,i,s=>
  match Yx l i with
  |.bad e p=>.bad e p
  |.ok (c,n) k=>
   let a:=s.set n (if b then cf s n-c else cf s n+c)
   if Y8 l (DS l k) 43 then ET l f false (DS l k+1) a
   else if Y8 l (DS l k) 45 then ET l f true (DS l k+1) a
   else if DS l k=l.length then .ok a (DS l k)
   else .bad 2 (DS l k)
def Yn(l:List UInt8):List Rat × Nat × Nat:=
 if 300<l.length then([],1,0)
 else
  match (if Y8 l (DS l 0) 45 then ET l (l.length+1) true (DS l 0+1) (List.replicate 9 0)else ET l (l.length+1) false (DS l 0) (List.replicate 9 0))with
  |.bad e p=>([],e,p)
  |.ok s _=>(Jd s,0,0)
theorem GN{ds:List UInt8}(e:i<=l.length)(h:Xs l i=.ok (ds,p) k):p=DS l i/\k=Ee l p/\i<=p/\p<k/\k<=l.length/\k-p<=12/\ds=(l.drop p).take (k-p)/\ds.length=k-p/\ds.all DW=true:=by
 unfold Xs at h;split at h
 . cases h
 . split at h
   . cases h
   . rename_i j m;simp only[Rd.ok.injEq,Prod.mk.injEq]at h;obtain⟨⟨rfl,rfl⟩,rfl⟩:=h;have hs:DS l i<=l.length:=Lu e;have o:DS l i<=Ee l (DS l i):=Lt _ _ _;have b:Ee l (DS l i)<=l.length:=Lu hs;have a:((l.drop (DS l i)).take (Ee l (DS l i)-DS l i)).length=Ee l (DS l i)-DS l i:=by rw[Ap,AV];omega
     refine⟨rfl,rfl,Lt _ _ _,Z,b,Z,rfl,a,?_⟩;rw[A1];intro c d;obtain⟨n,g,rfl⟩:=List.mem_iff_getElem.1 d;rw[a]at g;rw[List.getElem_take,C6];exact SF (f:=DW) (i:=DS l i) Z (by show _<Ee l (DS l i);omega) Z
theorem Lw{ds:List UInt8}(a:i<=l.length)(h:Xs l i=.ok (ds,p) k):i<k/\k<=l.length:=by
 have:=GN a h;omega
theorem J7(h:Y8 l j c=true):j<l.length:=by
 unfold Y8 at h;rcases AZ j l.length with a|a
 . exact a
 . rw[AP a]at h;simp at h
theorem Xg(a:i<=l.length):DS l i<=l.length:=Lu a
theorem F1(l:List UInt8)(i:Nat):i<=DS l i:=Lt _ _ _
theorem Lx{c:Rat}(f:i<=l.length)(h:YH l i=.ok c k):i<k/\k<=l.length:=by
 unfold YH at h;split at h
 . cases h
 . rename_i ds p g b;have d:=Lw f b;have n:=F1 l g;have o:=Xg d.2;split at h
   . rename_i a;have a:=J7 a;split at h
     . cases h
     . rename_i j r m e;have q:=Lw Z e;split at h
       . cases h
       . cases h;omega
   . cases h;omega
theorem Ly(c:i<=l.length)(h:EM l i=.ok n k):i<=k/\k<=l.length/\n<=8:=by
 unfold EM at h;have e:=F1 l i;have f:=Xg c;split at h
 . rename_i a;have a:=J7 a;split at h
   . cases h
   . rename_i d j m b;have g:=Lw Z b;split at h
     . cases h
     . cases h;omega
 . cases h;omega
theorem KV{c:Rat}(j:i<=l.length)(h:Yx l i=.ok (c,n) k):i<k/\k<=l.length/\n<=8:=by
 unfold Yx at h;have q:=F1 l i;have f:=Xg j;split at h
 . split at h
   . cases h
   . rename_i c' o d;have e:=Lx f d;have r:=F1 l o;have s:=Xg e.2;split at h
     . rename_i a;have a:=J7 a;split at h
       . cases h
       . rename_i p m b;have g:=Ly Z b;cases h;omega
     . cases h;omega
 . split at h
   . rename_i a;have a:=J7 a;split at h
     . cases h
     . rename_i p m b;have g:=Ly Z b;cases h;omega
   . cases h
def Ik(u u1 d1 d0 q r:Nat):Prop:=
 q*d1+r=u/\(u*4294967296+u1)/(d1*4294967296+d0)<=q/\q<=4294967297/\r<4294967296
theorem Nw(c:2147483648<=d1)(d:d1<4294967296)(b:d0<4294967296)(j:u1<4294967296)(i:u<d1*4294967296+d0):
 Ik u u1 d1 d0 (u/d1) (u%d1):=by
 have f:=Cg u d1;have g:u%d1<d1:=Cl _ Z;have e:d1*(u/d1)=u/d1*d1:=Av _ _;refine⟨Z,?_,?_,Z⟩
 . apply FC;rw[A0 Z];have a:(u/d1+1)*(d1*4294967296+d0)=u/d1*d1*4294967296+d1*4294967296+(u/d1+1)*d0:=by
    rw[AO,<-AG,AD (u/d1) 1 d1,Ct,AD (u/d1*d1) d1]
   rw[Nat.succ_eq_add_one,a];generalize u/d1*d1=p at *;generalize (u/d1+1)*d0=z;omega
 . apply FC;rw[A0 Z];omega
theorem Nx(h:Ik u u1 d1 d0 q r)(d:0<d1)(c:q*d0<=4294967296*r+u1):q=(u*4294967296+u1)/(d1*4294967296+d0):=by
 obtain⟨b,a,_,_⟩:=h;apply Nat.le_antisymm _ a;rw[Fy Z,AO,<-AG];generalize q*d1=p at *;generalize q*d0=z at *;omega
theorem Ny(h:Ik u u1 d1 d0 q r)(j:2147483648<=d1)(l:u1<4294967296)(k:u<d1*4294967296+d0)(a:4294967296<=q\/4294967296*r+u1<q*d0):
 1<=q/\(q-1)*d1+(r+d1)=u/\(u*4294967296+u1)/(d1*4294967296+d0)<=q-1/\q-1<=4294967296:=by
 obtain⟨c,d,f,g⟩:=h;have hq:1<=q:=by
  rcases a with a|a
  . omega
  . rcases Ca q with b|b
    . rw[b]at a;omega
    . exact b
 have e:(q-1)*d1+d1=q*d1:=by
  conv=>rhs;rw[show q=q-1+1 from by omega,AD,Ct]
 refine⟨hq,Z,?_,Z⟩;apply FC;rw[Nat.succ_eq_add_one,Nat.sub_add_cancel hq,A0 Z];rcases a with a|a
 . have i:4294967296*(d1*4294967296+d0)<=q*(d1*4294967296+d0):=Am _ a;omega
 . rw[AO,<-AG];generalize q*d1=p at *;generalize q*d0=z at *;omega
theorem KW(d:q*d1+r=u)(a:(u*4294967296+u1)/(d1*4294967296+d0)<=q)(b:q<=4294967296)(c:d0<4294967296)(f:0<d1)(g:4294967296<=r):q=(u*4294967296+u1)/(d1*4294967296+d0):=by
 apply Nat.le_antisymm _ a;rw[Fy Z,AO,<-AG];have e:q*d0<=4294967296*d0:=Am _ b;generalize q*d1=p at *;generalize q*d0=z at *;omega
theorem SH{t un0:Nat}(a:0<d):t/d*k+(t%d*k+un0)/d=(t*k+un0)/d/\(t%d*k+un0)%d=(t*k+un0)%d:=by
 have b:=Cg t d;have e:t*k+un0=d*(t/d*k)+(t%d*k+un0):=by
  conv=>lhs;rw[<-b,AD,AG]
  omega
 rw[e,Nat.mul_add_div a,Nat.mul_add_mod];exact⟨rfl,rfl⟩
theorem SI{a s:Nat}:(a*2^s)/(y*2^s)=a/y/\(a*2^s)%(y*2^s)=a%y*2^s:=
 ⟨Nat.mul_div_mul_right _ _ (A8 s),Nat.mul_mod_mul_right _ _ _⟩
def KX(B u u1 d1 d0 q r:Nat):Prop:=
 q*d1+r=u/\(u*B+u1)/(d1*B+d0)<=q/\q<B/\r<B
theorem SJ(a:0<d1)(f:d1<B)(j:u1<B)(d:u<d1*B):KX B u u1 d1 d0 (u/d1) (u%d1):=by
 have g:=Cg u d1;have i:u%d1<d1:=Cl _ a;have e:d1*(u/d1)=u/d1*d1:=Av _ _;have hp:0<d1*B:=FK a Z;refine⟨Z,?_,?_,Z⟩
 . apply FC;rw[A0 Z,Nat.succ_eq_add_one];have b:(u/d1+1)*(d1*B+d0)=(u/d1*d1+d1)*B+(u/d1+1)*d0:=by grind
   rw[b];have c:(u+1)*B<=(u/d1*d1+d1)*B:=Am _ Z;rw[AD,Ct]at c;generalize (u/d1+1)*d0=z;omega
 . rw[A0 a,Av];exact d
theorem Lz(a:q*d1+r=u)(b:(u*B+u1)/(d1*B+d0)<=q)(d:0<d1*B)(c:q*d0<=r*B+u1):q=(u*B+u1)/(d1*B+d0):=by
 apply Nat.le_antisymm _ b;rw[Fy Z,AO,<-AG,<-a,AD];omega
theorem SK(h:KX B u u1 d1 d0 q r)(i:0<d1*B)(c:r*B+u1<q*d0):
 1<=q/\(q-1)*d1+(r+d1)=u/\(u*B+u1)/(d1*B+d0)<=q-1/\q-1<B:=by
 obtain⟨b,d,f,g⟩:=h;have hq:1<=q:=by
  rcases Ca q with a|a
  . rw[a]at c;omega
  . exact a
 have e:(q-1)*d1+d1=q*d1:=by
  rw[<-Nat.succ_mul];congr 1;omega
 refine⟨hq,Z,?_,Z⟩;apply FC;rw[Nat.succ_eq_add_one,Nat.sub_add_cancel hq,A0 Z,AO,<-AG,<-b,AD];omega
theorem SL(a:q*d1+r=u)(b:(u*B+u1)/(d1*B+d0)<=q)(f:q<B)(e:d0<B)(c:0<d1*B)(d:B<=r):q=(u*B+u1)/(d1*B+d0):=by
 apply Lz a b c;have g:q*d0<=B*d0:=Am _ Z;have i:B*d0<=B*B:=As _ Z;have j:B*B<=r*B:=Am _ d;omega
def GF(R V g:Nat):Prop:=R<(g+1)*V/\g*V<=R+V
theorem SM{T:Nat}(c:R=T*E+lo)(a:V=o*E+lo2)(k:lo<E)(l:lo2<E)(p:T/o<=o)(i:0<o):GF R V (T/o):=by
 have m:=Cg T o;have n:=Cl T i;generalize T/o=g at *;generalize T%o=t at *;have d:(T+1)*E<=(o*g+o)*E:=Am _ Z;have e:(g+1)*V=(o*g+o)*E+(g+1)*lo2:=by rw[a];grind
 have j:g*lo2<=g*E:=As _ Z;have b:(o*g+g)*E<=(T+o)*E:=Am _ Z;have f:g*V=o*g*E+g*lo2:=by rw[a];grind
 rw[AD]at d b;refine⟨?_,?_⟩
 . rw[e,c];generalize (g+1)*lo2=z;omega
 . rw[f,c,a];rw[AD]at b;omega
theorem SN(a:R=d1*(B*E)+lo)(d:V=d1*E+lo2)(i:lo2<E)(k:B<=2*d1)(b:R<V*B)(j:2<=B):GF R V (B-1):=by
 refine⟨by rw[Nat.sub_add_cancel Z,Av];exact b,?_⟩;obtain⟨c,rfl⟩:∃c,B=c+2:=⟨B-2,Z⟩;rw[show c+2-1=c+1 from by omega,AD,Ct];apply Nat.add_le_add_right;rw[a,d,AO];have e:c*lo2<=c*E:=As _ Z;have f:c*E<=2*d1*E:=Am _ Z;have g:d1*((c+2)*E)=c*(d1*E)+2*d1*E:=by grind
 omega
theorem SO(h:GF R V g)(hq:q+V*g=R):g=R/V/\q=R%V:=by
 have c:g*V=V*g:=Av _ _;have b:=h.1;rw[AD,Ct]at b;have a:q<V:=Z
 rw[<-hq];exact⟨by rw[C5 _ _ Z,Ch a,A9],by rw[CL,Cm a]⟩
theorem SP{P q2 c2:Nat}(h:GF R V g)(hq:q+V*g=R+P)(n:q<P)(l:q2+P*c2=q+V)(m:q2<P)(j:c2<=1):1<=g/\g-1=R/V/\q2=R%V:=by
 have i:=h.2;have k:g*V=V*g:=Av _ _;have c:1<=g:=by
  rcases Ca g with a|a
  . rw[a]at hq;omega
  . exact a
 have e:V*(g-1)+V=V*g:=by rw[<-Nat.mul_succ];congr 1;omega
 have f:c2=1:=by
  rcases(by omega:c2=0\/c2=1)with a|a
  . subst a;omega
  . exact a
 subst f;have d:q2+V*(g-1)=R:=Z
 have b:q2<V:=Z
 rw[<-d];exact⟨c,by rw[C5 _ _ Z,Ch b,A9],by rw[CL,Cm b]⟩
def YY(x y:Nat):Nat:=(x-y)+(y-x)
def FP(H L:Nat)(s:Int)(h l c nb b a:Nat):Prop:=
 (s=1\/s=-1)/\H=nb*l+a*h/\L=c*l+b*h/\(c:Int)*a-nb*b=s/\b<=a/\c+b<=nb+a/\1<=a/\l<=h
theorem FP.start(h:L<=H):FP H L 1 H L 1 0 0 1:=
 ⟨Or.inl rfl,Z,Z,Z,Z,Z,Z,h⟩
theorem FP.step{l:Nat}(hs:FP H L s h l o nb v w)(hl:1<=l):
 FP H L (-s) l (h%l) v w (o+h/l*v) (nb+h/l*w):=by
 obtain⟨k,b,c,d,a,m,n,p⟩:=hs;have e:=Cg h l;have hq:1<=h/l:=(Fy Z).2 Z;have t:h%l<l:=Cl _ Z;generalize h/l=q at *;generalize h%l=r at *;subst e;have g:q*v<=q*w:=As q a;have i:(q-1)*v<=(q-1)*w:=As _ a;have j:(q-1)*v+v=q*v:=by
  rw[<-Nat.succ_mul];congr 1;omega
 have f:(q-1)*w+w=q*w:=by
  rw[<-Nat.succ_mul];congr 1;omega
 refine⟨Z,by rw[b];grind,by rw[c];grind,?_,Z,Z,Z,Z⟩;rw[<-d];push_cast
 grind
theorem FP.small{l:Nat}(hs:FP H L s h l o nb v w)(hl:1<=l):nb+w<=H/\o+v<=L:=by
 obtain⟨e,f,g,i,j,k,m,n⟩:=hs;have a:nb<=nb*l:=Cb nb hl;have b:w<=w*h:=Cb w Z;have c:o<=o*l:=Cb o hl;have d:v<=v*h:=Cb v Z;omega
def GO(A B b c a nb:Nat):Prop:=
 A=c*YY (a*A) (nb*B)+nb*YY (b*A) (c*B)/\B=b*YY (a*A) (nb*B)+a*YY (b*A) (c*B)/\
 YY (a*A) (nb*B)<YY (b*A) (c*B)/\1<=nb
theorem Nz{x:Nat}{z:Int}(a:0<=z)(h:z=(x:Int)-y\/z=(y:Int)-x):(YY x y:Int)=z:=by
 unfold YY;omega
theorem FP.out{S al be l:Nat}(hs:FP H L s h l o nb v w)(F:A=H*S+al)(G:B=L*S+be)(p:al<S)(q:be<S)
(hl:w<=l)(I:nb+w<=h-l):GO A B o nb v w:=by
 obtain⟨b,y,z,d,C,D,E,K⟩:=hs;have k:(H:Int)=nb*l+w*h:=by rw[y];push_cast;rfl
 have m:(L:Int)=o*l+v*h:=by rw[z];push_cast;rfl
 have i:(A:Int)=H*S+al:=by rw[F];push_cast;rfl
 have j:(B:Int)=L*S+be:=by rw[G];push_cast;rfl
 have c:s*s=1:=by rcases b with rfl|rfl<;>rfl
 obtain⟨X,e⟩:∃X:Int,X=s*(o*A-nb*B):=⟨_,rfl⟩;obtain⟨a,f⟩:∃a:Int,a=-s*(v*A-w*B):=⟨_,rfl⟩;have x1:X=(h:Int)*S+s*(o*al-nb*be):=by
  have:X=(s*(o*w-nb*v))*h*S+s*(o*al-nb*be):=by rw[e,i,j,k,m];grind
  rw[this,d,c];grind
 have r:a=(l:Int)*S-s*(v*al-w*be):=by
  have:a=(s*(o*w-nb*v))*l*S-s*(v*al-w*be):=by rw[f,i,j,k,m];grind
  rw[this,d,c];grind
 have c1:(v:Int)*al<=w*al:=by exact_mod_cast Am al C
 have c2:(w:Int)*al<w*S:=by exact_mod_cast Fh p Z
 have c3:(w:Int)*be<w*S:=by exact_mod_cast Fh q Z
 have c4:(w:Int)*S<=l*S:=by exact_mod_cast Am S hl
 have d1:((o+v:Nat):Int)*al<=(nb+w:Nat)*al:=by exact_mod_cast Am al D
 have t:((nb+w:Nat):Int)*al<(nb+w:Nat)*S:=by exact_mod_cast Fh p Z
 have u:((nb+w:Nat):Int)*be<(nb+w:Nat)*S:=by exact_mod_cast Fh q Z
 have g:((nb+w:Nat):Int)*S<=(h-l:Nat)*S:=by exact_mod_cast Am S I
 have x:((h-l:Nat):Int)=h-l:=Z
 rw[x]at g;simp only[Int.natCast_add,Int.add_mul,Int.sub_mul]at d1 t u g;have P:(0:Int)<=w*be:=by exact_mod_cast AK _
 have Q:(0:Int)<=v*al:=by exact_mod_cast AK _
 have R:(0:Int)<=o*al:=by exact_mod_cast AK _
 have T:(0:Int)<=nb*be:=by exact_mod_cast AK _
 have N:0<a:=by
  rw[r];rcases b with rfl|rfl<;>omega
 have M:a<X:=by
  rw[x1,r];rcases b with rfl|rfl<;>omega
 have ex:(YY (o*A) (nb*B):Int)=X:=Nz Z (by push_cast;rw[e];rcases b with rfl|rfl<;>omega);have n:(YY (v*A) (w*B):Int)=a:=Nz Z (by push_cast;rw[f];rcases b with rfl|rfl<;>omega);refine⟨?_,?_,Z,E⟩
 . have:(A:Int)=nb*a+w*X:=by
    have:(nb:Int)*a+w*X=(s*(o*w-nb*v))*A:=by rw[e,f];grind
    rw[this,d,c];omega
   rw[<-ex,<-n]at this;exact_mod_cast this
 . have:(B:Int)=o*a+v*X:=by
    have:(o:Int)*a+v*X=(s*(o*w-nb*v))*B:=by rw[e,f];grind
    rw[this,d,c];omega
   rw[<-ex,<-n]at this;exact_mod_cast this
theorem GO.gcd{A B d e c nb:Nat}(h:GO A B d e c nb):Nat.gcd (YY (d*A) (e*B)) (YY (c*A) (nb*B))=Nat.gcd A B:=by
 obtain⟨i,j,_,_⟩:=h;apply Nat.dvd_antisymm
 . have a:=Fg (YY (d*A) (e*B)) (YY (c*A) (nb*B));have b:=CR (YY (d*A) (e*B)) (YY (c*A) (nb*B));generalize Nat.gcd (YY (d*A) (e*B)) (YY (c*A) (nb*B))=g at *;apply Nat.dvd_gcd
   . rw[i];exact Nat.dvd_add (Cw b _) (Cw a _)
   . rw[j];exact Nat.dvd_add (Cw b _) (Cw a _)
 . have a:=Fg A B;have b:=CR A B;generalize Nat.gcd A B=g at *;have f:∀x y:Nat,g∣YY (x*A) (y*B):=λx y=>by
    unfold YY;exact Nat.dvd_add (Nat.dvd_sub (Cw a _) (Cw b _)) (Nat.dvd_sub (Cw b _) (Cw a _))
   exact Nat.dvd_gcd (f _ _) (f _ _)
theorem GO.less(h:GO A B o v w nb)(hp:v≠0)(g:0<B):YY (o*A) (v*B)+YY (w*A) (nb*B)<A+B:=by
 obtain⟨c,d,e,f⟩:=h;have a:YY (w*A) (nb*B)<=v*YY (w*A) (nb*B):=C0 _ Z;have b:YY (o*A) (v*B)<=nb*YY (o*A) (v*B):=C0 _ Z;omega
