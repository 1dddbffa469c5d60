import Init
import Derived.Test.YteldjhhjnchdeaaGreatDoorW01
set_option maxRecDepth 100000
set_option maxHeartbeats 16000000
namespace Go.Proofs.YteldjhhjnchdeaaGreatDoor
theorem Bz:type_of% @UInt8.toNat_inj:=@UInt8.toNat_inj
theorem Bu:type_of% @decide_eq_false_iff_not:=@decide_eq_false_iff_not
theorem Bo:type_of% @congrArg:=@congrArg
theorem Bk:type_of% @decide_eq_true_eq:=@decide_eq_true_eq
def val(B:Nat):List Nat->Nat
 |[]=>0
 |d::ds=>d+B*val B ds
def DM(B:Nat)(ds:List Nat):Prop:=∀d∈ds,d<B
def FX(B:Nat):Nat->Nat->List Nat
 |0,_=>[]
 |k+1,n=>if n=0\/B<2 then []else n%B::FX B k (n/B)
def Jg(B n:Nat):List Nat:=FX B n n
theorem Nm(B:Nat):∀(k n m:Nat),n<=k->n<=m->FX B k n=FX B m n
 |0,n,m,h,_=>by
  have:n=0:=Y
  subst this;cases m with
  |zero=>rfl
  |succ m=>rw[FX,FX,BJ (Or.inl rfl)]
 |k+1,n,0,_,h=>by
  have:n=0:=Y
  subst this;rw[FX,FX,BJ (Or.inl rfl)]
 |k+1,n,m+1,a,b=>by
  rw[FX,FX];by_cases h:n=0\/B<2
  . rw[BJ h,BJ h]
  . have c:n/B<n:=FI Y Y;rw[BH h,BH h,Nm B k (n/B) m Y Y]
def JI:List Nat->List Nat
 |[]=>[]
 |d::ds=>match JI ds with
  |[]=>if d=0 then []else [d]
  |e::es=>d::e::es
variable{s:Int}{a b ds:List Nat}{l:List UInt8}{A B E H L R V d d0 d1 g h i j k lo lo2 m n nb o p q r u u1 v w y:Nat}{c:UInt8}{f:UInt8->Bool}
theorem DM.nil(B:Nat):DM B []:=λ_ h=>by cases h
theorem DM.cons(h:d<B)(k:DM B ds):DM B (d::ds):=λx a=>by
 rcases List.mem_cons.1 a with rfl|a
 . exact h
 . exact k x a
theorem DM.head(h:DM B (d::ds)):d<B:=h d (CH ..)
theorem DM.tail(h:DM B (d::ds)):DM B ds:=λx a=>h x (List.mem_cons_of_mem _ a)
theorem DM.append(h:DM B a)(k:DM B b):DM B (a++b):=λx c=>by
 rcases C7.1 c with c|c
 . exact h x c
 . exact k x c
theorem Lb(B:Nat):val B []=0:=rfl
theorem J3(B d:Nat)(ds:List Nat):val B (d::ds)=d+B*val B ds:=rfl
theorem val_append(B:Nat):∀(a b:List Nat),val B (a++b)=val B a+B^a.length*val B b
 |[],b=>by simp[val]
 |d::a,b=>by
  simp only[AF,J3,val_append B a b,Ao,AY];rw[AO,Av (B^a.length) B,AH,Fe]
theorem Yv{B:Nat}:∀ {ds:List Nat},DM B ds->val B ds<B^ds.length
 |[],_=>by simp[val]
 |d::ds,h=>by
  have b:=h.head;have a:=Yv h.tail;simp only[J3,Ao,AY];have c:B*val B ds+B<=B*B^ds.length:=by
   rw[<-Nat.mul_succ];exact As _ a
  rw[Av (B^ds.length) B];omega
theorem JF(B:Nat):Jg B 0=[]:=rfl
theorem Xi(b:2<=B)(c:n≠0):Jg B n=n%B::Jg B (n/B):=by
 unfold Jg;obtain⟨m,rfl⟩:∃m,n=m+1:=⟨n-1,Y⟩;have a:(m+1)/B<m+1:=FI Y Y;rw[FX,BH Y,Nm B m _ _ Y (Aa _)]
theorem Js(b:2<=B)(n:Nat):val B (Jg B n)=n:=by
 induction n using Nat.strongRecOn with
 |ind n c=>
  by_cases a:n=0
  . subst a;rw[JF];rfl
  . rw[Xi b a,J3,c _ (FI Y Y)];exact Nat.mod_add_div n B
theorem Ju(b:2<=B)(n:Nat):DM B (Jg B n):=by
 induction n using Nat.strongRecOn with
 |ind n c=>
  by_cases a:n=0
  . subst a;rw[JF];exact DM.nil B
  . rw[Xi b a];exact DM.cons (Ck _ Y) (c _ (FI Y Y))
theorem JL(a:2<=B):Jg B n=[]↔n=0:=by
 constructor
 . intro h;have:=Js a n;rw[h]at this;exact this.symm
 . intro h;rw[h,JF]
theorem Yy(h:JI ds=[]):JI (d::ds)=if d=0 then []else [d]:=by
 simp only[JI,h]
theorem YP(h:JI ds≠[]):JI (d::ds)=d::JI ds:=by
 simp only[JI];cases a:JI ds with
 |nil=>exact absurd a h
 |cons e b=>rfl
theorem Lc(B:Nat):∀(ds:List Nat),val B (JI ds)=val B ds
 |[]=>rfl
 |d::ds=>by
  by_cases h:JI ds=[]
  . have:=Lc B ds;rw[h]at this;rw[Yy h,J3,<-this];by_cases a:d=0
    . simp[a,val]
    . simp[a,val]
  . rw[YP h,J3,J3,Lc B ds]
theorem Yj{B:Nat}(j:2<=B):∀ {ds:List Nat},DM B ds->Jg B (val B ds)=JI ds
 |[],_=>by rw[Lb,JF];rfl
 |d::ds,h=>by
  have i:=h.head;have g:=Yj j h.tail;rw[J3];by_cases f:d+B*val B ds=0
  . have c:d=0:=Y
    have e:val B ds=0:=by
     rcases Ca (val B ds)with b|b
     . exact b
     . have:0<B*val B ds:=FL Y b
       omega
    rw[e,JF]at g;rw[f,JF,Yy g.symm,BJ c]
  . rw[Xi j f];have k:(d+B*val B ds)%B=d:=by rw[CM];exact Cl i
    have l:(d+B*val B ds)/B=val B ds:=by
     rw[C5 _ _ Y,Cg i,A9]
    rw[k,l,g];by_cases a:JI ds=[]
    . rw[Yy a,a];have e:val B ds=0:=by rw[<-Lc B ds,a];rfl
      rw[BH];intro c;apply f;rw[c,e];simp
    . rw[YP a]
def Ez(ds:List Nat):Prop:=JI ds=ds
theorem Xj(a:2<=B)(n:Nat):Ez (Jg B n):=by
 have h:=Yj a (Ju a n);rw[Js a]at h;exact h.symm
theorem Ld(a:2<=B)(h:DM B ds)(b:Ez ds):Jg B (val B ds)=ds:=(Yj a h).trans b
theorem Le:∀(ds:List Nat) {d:Nat},d≠0->JI (ds++[d])=ds++[d]
 |[],d,h=>by simp[JI,h]
 |e::ds,d,h=>by
  have a:=Le ds h;rw[AF,YP (by rw[a];simp),a]
theorem XY:∀(ds:List Nat),JI (ds++[0])=JI ds
 |[]=>by simp[JI]
 |e::ds=>by
  have a:=XY ds;by_cases h:JI ds=[]
  . rw[AF,Yy (by rw[a];exact h),Yy h]
  . rw[AF,YP (by rw[a];exact h),YP h,a]
theorem Nn(ds:List Nat)(k:Nat)(n:k<=ds.length)(a:∀j,k<=j->j<ds.length->ds[j]?=some 0):JI (ds.take k)=JI ds:=by
 obtain⟨m,f⟩:∃m,ds.length=k+m:=⟨ds.length-k,Y⟩;induction m generalizing ds with
 |zero=>rw[Ag Y]
 |succ m g=>
  have hl:ds=ds.take (k+m)++[0]:=by
   apply List.ext_getElem?;intro i;by_cases d:i<k+m
   . rw[A5 (by rw[Ap];omega),AX d]
   . by_cases e:i=k+m
     . subst e;rw[AW (by rw[Ap];omega),a _ Y Y];simp[List.length_take,f]
     . rw[AP Y,AP];simp[List.length_take];omega
  have b:(ds.take (k+m)).length=k+m:=by rw[Ap];omega
  have:=g (ds.take (k+m)) Y (by
   intro j c l;rw[AX Y];exact a j c Y) b
  rw[List.take_take,CK Y]at this;rw[this];conv=>rhs;rw[hl]
  rw[XY]
theorem Ry(ds:List Nat)(k:Nat)(a:k<ds.length)(d:ds[k]?≠some 0)(b:∀j,k<j->j<ds.length->ds[j]?=some 0):JI ds=ds.take (k+1):=by
 rw[<-Nn ds (k+1) Y λj f c=>b j Y c];rw[Cq a];refine Le _ ?_;intro e;apply d;rw[An a,e]
theorem Rz(ds:List Nat)(a:∀j,j<ds.length->ds[j]?=some 0):JI ds=[]:=by
 have:=Nn ds 0 Y λj _ h=>a j h;rw[<-this];simp[JI]
theorem Lf:∀(ds:List Nat),(JI ds).length<=ds.length
 |[]=>by simp[JI]
 |d::ds=>by
  have:=Lf ds;by_cases a:JI ds=[]
  . rw[Yy a];split<;>simp
  . rw[YP a];simp;omega
theorem JX(b:2<=B)(h:n<B^k):(Jg B n).length<=k:=by
 induction k generalizing n with
 |zero=>
  have:n=0:=by simp at h;exact h
  rw[this,JF];simp
 |succ k c=>
  by_cases a:n=0
  . rw[a,JF];simp
  . rw[Xi b a,Ao]
    have:n/B<B^k:=by
     apply Nat.div_lt_of_lt_mul;rw[Av,<-AY];exact h
    have:=c this;omega
theorem Np(b:2<=B)(h:(Jg B n).length=k+1):B^k<=n:=by
 rcases AZ n (B^k)with a|a
 . have:=JX b a;omega
 . exact a
theorem XZ(a:2<=B)(h:(Jg B m).length<(Jg B n).length):m<n:=by
 have b:m<B^(Jg B m).length:=by
  have:=Yv (Ju a m);rwa[Js a]at this
 have c:B^((Jg B n).length-1)<=n:=Np a Y;have d:B^(Jg B m).length<=B^((Jg B n).length-1):=Ay Y Y;omega
def Xr(m n:Nat):Int:=if m<n then -1 else if n<m then 1 else 0
theorem Nq(m:Nat):Xr m m=0:=by simp[Xr]
theorem Gz(h:m<n):Xr m n=-1:=by simp[Xr,h]
theorem Ie(h:n<m):Xr m n=1:=by
 have:¬m<n:=Y
 simp[Xr,h,this]
theorem Nr(ds:List Nat)(k:Nat)(a:k<ds.length):val B ds=val B (ds.take k)+B^k*(ds[k]?.getD 0+B*val B (ds.drop (k+1))):=by
 have b:ds=ds.take k++(ds[k]?.getD 0::ds.drop (k+1)):=by
  rw[An a];conv=>lhs;rw[<-Ch k ds,A6 a]
  rfl
 have c:(ds.take k).length=k:=by rw[Ap];omega
 conv=>lhs;rw[b]
 rw[val_append,J3,c]
theorem DM.take{B:Nat}{ds:List Nat}(h:DM B ds)(k:Nat):DM B (ds.take k):=λx a=>h x (FF a)
theorem DM.drop{B:Nat}{ds:List Nat}(h:DM B ds)(k:Nat):DM B (ds.drop k):=λx a=>h x (List.mem_of_mem_drop a)
theorem DM.get(h:DM B ds)(a:k<ds.length):ds[k]?.getD 0<B:=by
 rw[An a];exact h _ (List.getElem_mem a)
theorem DM.getD{B:Nat}{ds:List Nat}(h:DM B ds)(b:0<B)(k:Nat):ds[k]?.getD 0<B:=by
 rcases AZ k ds.length with a|a
 . exact h.get a
 . rw[AP a];exact b
theorem Ns(e:DM B a)(hl:a.length=b.length)(k:Nat)(g:k<a.length)(f:a.drop (k+1)=b.drop (k+1))(h:a[k]?.getD 0<b[k]?.getD 0):val B a<val B b:=by
 rw[Nr a k g,Nr b k Y,<-f];have c:=Yv (e.take k);have d:(a.take k).length=k:=by rw[Ap];omega
 rw[d]at c;have i:B^k*(a[k]?.getD 0+B*val B (a.drop (k+1)))+B^k<=B^k*(b[k]?.getD 0+B*val B (a.drop (k+1))):=by
  rw[<-Nat.mul_succ];exact As _ Y
 omega
theorem R1(hl:a.length=b.length)(k:Nat)(c:k<a.length)(d:a.drop (k+1)=b.drop (k+1))(h:a[k]?.getD 0=b[k]?.getD 0):a.drop k=b.drop k:=by
 rw[A6 c,A6 (by omega:k<b.length),d];rw[An c,An (by omega:k<b.length)]at h;exact Bo (·::_) h
theorem Y7(c:2<=B)(d:DM B a)(e:DM B b)(ta:Ez a)(tb:Ez b)(h:a.length<b.length):val B a<val B b:=by
 apply XZ c;rw[Ld c d ta,Ld c e tb];exact h
theorem Jv(B:Nat)(ds:List Nat)(k:Nat):val B (ds.take (k+1))=val B (ds.take k)+B^k*ds[k]?.getD 0:=by
 rcases AZ k ds.length with h|h
 . rw[Cq h,val_append,Ap,CK Y,An h];simp[val]
 . rw[Ag Y,Ag h,AP h];simp
theorem Xs(B:Nat)(ds:List Nat)(d:Nat):val B (ds++[d])=val B ds+B^ds.length*d:=by
 rw[val_append];simp[val]
theorem Lg(a:2<=B)(h:(Jg B n).length=k)(b:k≠0):B^(k-1)<=n:=Np a Y
def FY(d:Nat):UInt8:=UInt8.ofNat (48+d)
def EX(ds:List Nat):List UInt8:=(ds.map FY).reverse
def X0(n:Nat):List UInt8:=if n=0 then [48]else EX (Jg 10 n)
def X8(z:Int):List UInt8:=if z<0 then 45::X0 z.natAbs else X0 z.natAbs
theorem R2(ds:List Nat)(d:Nat):EX (ds++[d])=FY d::EX ds:=by simp[EX]
theorem Nt(ds:List Nat):(EX ds).length=ds.length:=by simp[EX]
theorem Lh(h:n≠0):X0 n=EX (Jg 10 n):=by simp[X0,h]
def DU(c:UInt8):Bool:=decide (48<=c.toNat)&&decide (c.toNat<=57)
def Dr(l:List UInt8):List Nat:=(l.map λc=>c.toNat-48).reverse
def num(l:List UInt8):Nat:=val 10 (Dr l)
def JM(l:List UInt8):List UInt8:=if l.head?=some 45 then l.tail else l
def good(l:List UInt8):Bool:=decide (l.length<=2000) && !(JM l).isEmpty&&(!decide ((JM l).head?=some 48) || decide (l=[48]))&&(JM l).all DU
def YX(l:List UInt8):Int:=if l.head?=some 45 then -(num (JM l):Int)else num (JM l)
theorem YK(h:DU c=true):48<=c.toNat/\c.toNat<=57:=by simpa[DU]using h
theorem XE(h:d<10):(FY d).toNat=48+d:=by
 unfold FY;rw[UInt8.toNat_ofNat'];omega
theorem R3(h:DU c=true):FY (c.toNat-48)=c:=by
 have a:=YK h;apply Bz.1;rw[XE Y];omega
theorem R4(l:List UInt8)(c:UInt8):Dr (l++[c])=(c.toNat-48)::Dr l:=by simp[Dr]
theorem Li(l:List UInt8)(c:UInt8):num (l++[c])=(c.toNat-48)+10*num l:=by rw[num,R4,J3];rfl
theorem R5(a b:List UInt8):Dr (a++b)=Dr b++Dr a:=by simp[Dr]
theorem Ig(l:List UInt8):(Dr l).length=l.length:=by simp[Dr]
theorem Ih(a b:List UInt8):num (a++b)=num b+10^b.length*num a:=by rw[num,R5,val_append,Ig];rfl
theorem KP(h:l.all DU=true):DM 10 (Dr l):=by
 intro d a;simp only[Dr,List.mem_reverse,FG]at a;obtain⟨c,b,rfl⟩:=a;have:=YK (A1.1 h c b);omega
theorem R6(h:l.all DU=true):EX (Dr l)=l:=by
 simp only[EX,Dr,List.map_reverse,List.reverse_reverse,List.map_map];conv=>rhs;rw[<-List.map_id l]
 apply List.map_congr_left;intro c a;exact R3 (A1.1 h c a)
theorem R7(b:DU c=true)(a:c≠48):Ez (Dr (c::l)):=by
 have e:Dr (c::l)=Dr l++[c.toNat-48]:=by simp[Dr]
 rw[e];refine Le _ ?_;have:=YK b;intro h;apply a;apply Bz.1;show c.toNat=48;omega
theorem Lj(h:(c::l).all DU=true)(b:c≠48):X0 (num (c::l))=c::l/\num (c::l)≠0:=by
 have d:DU c=true:=A1.1 h c (CH ..);have e:=Ld (B:=10) Y (KP h) (R7 d b);have a:num (c::l)≠0:=by
  intro f;rw[show val 10 (Dr (c::l))=0 from f,JF]at e;have:=Bo List.length e;rw[Ig]at this;simp at this
 refine⟨?_,a⟩;rw[Lh a,num,e,R6 h]
theorem R8(h:good l=true):X8 (YX l)=l:=by
 simp only[good,Co,Bk,Fj,CP,Bu]at h;obtain⟨⟨⟨_,g⟩,i⟩,f⟩:=h;cases a:JM l with
 |nil=>rw[a]at g;simp at g
 |cons c t=>
  rw[a]at i f;by_cases d:c=48
  . have hl:l=[48]:=by
     rcases i with h|h
     . exact absurd (by rw[d];rfl) h
     . exact h
    subst hl;simp[YX,JM,X8,X0,num,Dr,val]
  . obtain⟨e,j⟩:=Lj f d;by_cases b:l.head?=some 45
    . have hl:l=45::c::t:=by
       cases l with
       |nil=>simp at b
       |cons x l'=>
        simp at b;subst b;simp[JM]at a;rw[a]
      rw[YX,BJ b,a,X8,BJ Y,FN,AD,e,hl]
    . have hl:l=c::t:=by rw[<-a,JM,BH b]
      rw[YX,BH b,a,X8,BH Y,AD,e,hl]
theorem R9(h:DM 10 ds):(EX ds).all DU=true:=by
 rw[A1];intro c a;simp only[EX,List.mem_reverse,FG]at a;obtain⟨d,b,rfl⟩:=a;have:=h d b;simp[DU,XE this];omega
theorem SA(h:DM 10 ds):num (EX ds)=val 10 ds:=by
 have e:Dr (EX ds)=ds:=by
  simp only[EX,Dr,List.map_reverse,List.reverse_reverse,List.map_map];conv=>rhs;rw[<-List.map_id ds]
  apply List.map_congr_left;intro d a;have:=h d a;simp[XE this]
 rw[num,e]
theorem Nu(j:n≠0):∃c t,X0 n=c::t/\c≠48/\c≠45/\(c::t).all DU=true/\num (c::t)=n:=by
 have a:=Ju (B:=10) Y n;have k:=Xj (B:=10) Y n;have q:=Js (B:=10) Y n;have m:Jg 10 n≠[]:=by rw[Ne,JL Y];exact j
 have f:=R9 a;have b:=SA a;have e:X0 n=EX (Jg 10 n):=Lh j;rw[q]at b;obtain⟨ds,d,p⟩:∃ds d,Jg 10 n=ds++[d]:=⟨_,_,(List.dropLast_concat_getLast m).symm⟩;rw[p]at f b e k a;rw[R2]at f b e;have r:d≠0:=by
  intro o;subst o;have g:(JI (ds++[0])).length<=ds.length:=by rw[XY];exact Lf ds
  rw[k]at g;simp at g;omega
 have l:d<10:=a d O;have i:=XE l;refine⟨FY d,EX ds,e,?_,?_,f,b⟩
 . intro h;rw[h]at i
   have:(48:UInt8).toNat=48:=rfl
   omega
 . intro h;rw[h]at i
   have:(45:UInt8).toNat=45:=rfl
   omega
theorem SB(a:10<=B):(Jg B n).length<=(Jg 10 n).length:=by
 refine JX Y ?_;have h:=Yv (Ju (B:=10) Y n);rw[Js Y]at h;exact AC h (CN a _)
theorem SC(h:good l=true)(b:10<=B):(Jg B (YX l).natAbs).length<=2000:=by
 have e:=R8 h;have hl:l.length<=2000:=by
  simp only[good,Co,Bk]at h;exact h.1.1.1
 rw[<-e]at hl;refine Aw (SB b) ?_;by_cases a:(YX l).natAbs=0
 . rw[a,JF];simp
 . have c:(X0 (YX l).natAbs).length=(Jg 10 (YX l).natAbs).length:=by rw[Lh a,Nt]
   unfold X8 at hl;split at hl
   . simp at hl;omega
   . omega
def Xa(f:UInt8->Bool)(l:List UInt8)(i:Nat):Nat:=i+((l.drop i).takeWhile f).length
def DR(l:List UInt8)(i:Nat):Nat:=Xa (·==32) l i
def EZ(l:List UInt8)(i:Nat):Nat:=Xa DU l i
theorem SF(e:n<=l.length)(a:∀k (h:k<n),f l[k]=true)(b:∀h:n<l.length,f l[n]=false):(l.takeWhile f).length=n:=by
 induction l generalizing n with
 |nil=>simp at e ⊢;omega
 |cons c t g=>
  cases n with
  |zero=>
   have:=b O;simp at this;rw[List.takeWhile_cons_of_neg (by simp[this])];rfl
  |succ n=>
   have:=a 0 Y;simp at this;rw[List.takeWhile_cons_of_pos this,Ao,g (n:=n) (by simpa using e) (λk d=>a (k+1) Y) λd=>b (by simpa using d)]
theorem KQ(d:i<=j)(g:j<=l.length)(b:∀k (h:k<l.length),i<=k->k<j->f l[k]=true)(c:∀h:j<l.length,f l[j]=false):Xa f l i=j:=by
 unfold Xa;rw[SF (n:=j-i) (by rw[AV];omega)]
 . omega
 . intro k a;rw[C6];exact b _ _ Y Y
 . intro a;rw[C6];rw[AV]at a;have e:i+(j-i)=j:=Y
   have:=c Y;simp only[e];exact this
theorem Lk(f:UInt8->Bool)(l:List UInt8):(l.takeWhile f).length<=l.length/\(∀k (h:k<l.length),k<(l.takeWhile f).length->f l[k]=true)/\∀h:(l.takeWhile f).length<l.length,f (l[(l.takeWhile f).length]'h)=false:=by
 induction l with
 |nil=>simp
 |cons c t d=>
  by_cases a:f c=true
  . rw[List.takeWhile_cons_of_pos a];refine⟨by simp only[Ao];omega,λk b h=>?_,λh=>?_⟩
    . cases k with
      |zero=>simpa using a
      |succ k=>simpa using d.2.1 k (by simpa using b) (by simpa using h)
    . simp only[Ao,List.getElem_cons_succ];exact d.2.2 (by simpa using h)
  . rw[List.takeWhile_cons_of_neg (by simpa using a)];refine⟨O,λk b h=>by simp at h,λh=>by simpa using a⟩
theorem Ll(f:UInt8->Bool)(l:List UInt8)(i:Nat):i<=Xa f l i:=Nat.le_add_right _ _
theorem Lm(a:i<=l.length):Xa f l i<=l.length:=by
 have:=(Lk f (l.drop i)).1;rw[AV]at this;unfold Xa;omega
theorem SG(b:i<=k)(a:k<Xa f l i)(h:k<l.length):f l[k]=true:=by
 have:=(Lk f (l.drop i)).2.1 (k-i) (by rw[AV];omega) (by unfold Xa at a;omega);rw[C6]at this;have e:i+(k-i)=k:=Y
 simpa only[e]using this
theorem Lo(h:Xa f l i<l.length):f (l[Xa f l i]'h)=false:=by
 have a:((l.drop i).takeWhile f).length<(l.drop i).length:=by
  rw[AV];unfold Xa at h;omega
 have:=(Lk f (l.drop i)).2.2 a;rw[C6]at this;exact this
theorem SH(f:UInt8->Bool)(l:List UInt8)(i:Nat):Xa f l (Xa f l i)=Xa f l i:=by
 rcases AZ (Xa f l i) l.length with h|h
 . exact KQ (Aa _) Y (λk _ b c=>by omega) λa=>Lo a
 . unfold Xa;rw[show i+((l.drop i).takeWhile f).length=Xa f l i from rfl,A2 h];rfl
def Xo(l:List UInt8)(j:Nat)(c:UInt8):Bool:=l[j]?==some c
abbrev Rd(α:Type):=EStateM.Result Nat Nat α
def Xp(l:List UInt8)(i:Nat):Rd (List UInt8 × Nat):=
 if EZ l (DR l i)=DR l i then .error 2 (DR l i)
 else if 12<EZ l (DR l i)-DR l i then .error 3 (DR l i)
 else .ok (((l.drop (DR l i)).take (EZ l (DR l i)-DR l i)),DR l i) (EZ l (DR l i))
def YG(l:List UInt8)(i:Nat):Rd Rat:=
 match Xp l i with
 |.error e p=>.error e p
 |.ok (ds,_) k=>
  if Xo l (DR l k) 47 then
   match Xp l (DR l k+1)with
   |.error e p=>.error e p
   |.ok (a,p) m=>if num a=0 then .error 4 p else .ok (Rat.divInt (num ds) (num a)) m
  else .ok ((num ds:Int):Rat) (DR l k)
def ES(l:List UInt8)(i:Nat):Rd Nat:=
 if Xo l (DR l i) 94 then
  match Xp l (DR l i+1)with
  |.error e p=>.error e p
  |.ok (ds,p) k=>if 8<num ds then .error 3 p else .ok (num ds) k
 else .ok 1 (DR l i)
def Er(l:List UInt8)(j:Nat):Bool:=(l[j]?.map DU).getD false
def YU(l:List UInt8)(i:Nat):Rd (Rat × Nat):=
 if Er l (DR l i)then
  match YG l (DR l i)with
  |.error e p=>.error e p
  |.ok c k=>
   if Xo l (DR l k) 120 then
    match ES l (DR l k+1)with
    |.error e p=>.error e p
    |.ok n m=>.ok (c,n) m
   else .ok (c,0) (DR l k)
 else if Xo l (DR l i) 120 then
  match ES l (DR l i+1)with
  |.error e p=>.error e p
  |.ok n m=>.ok (1,n) m
 else .error 2 (DR l i)
def ET(l:List UInt8):Nat->Bool->Nat->List Rat->Rd (List Rat)
 |0,_,i,_=>.error 0 i
 |f+1,b,i,s=>
  match YU l i with
  |.error e p=>.error e p
  |.ok (c,n) k=>
   let a:=s.set n (if b then cf s n-c else cf s n+c)
   if Xo l (DR l k) 43 then ET l f false (DR l k+1) a
   else if Xo l (DR l k) 45 then ET l f true (DR l k+1) a
   else if DR l k=l.length then .ok a (DR l k)
   else .error 2 (DR l k)
def Yl(l:List UInt8):List Rat × Nat × Nat:=
 if 300<l.length then([],1,0)
 else
  match (if Xo l (DR l 0) 45 then ET l (l.length+1) true (DR l 0+1) (List.replicate 9 0)else ET l (l.length+1) false (DR l 0) (List.replicate 9 0))with
  |.error e p=>([],e,p)
  |.ok s _=>(Jd s,0,0)
theorem X9{ds:List UInt8}(e:i<=l.length)(h:Xp l i=.ok (ds,p) k):p=DR l i/\k=EZ l p/\i<=p/\p<k/\k<=l.length/\k-p<=12/\ds=(l.drop p).take (k-p)/\ds.length=k-p/\ds.all DU=true:=by
 unfold Xp at h;split at h
 . cases h
 . split at h
   . cases h
   . rename_i j m;simp only[EStateM.Result.ok.injEq,Prod.mk.injEq]at h;obtain⟨⟨rfl,rfl⟩,rfl⟩:=h;have hs:DR l i<=l.length:=Lm e;have o:DR l i<=EZ l (DR l i):=Ll _ _ _;have b:EZ l (DR l i)<=l.length:=Lm hs;have a:((l.drop (DR l i)).take (EZ l (DR l i)-DR l i)).length=EZ l (DR l i)-DR l i:=by rw[Ap,AV];omega
     refine⟨rfl,rfl,Ll _ _ _,Y,b,Y,rfl,a,?_⟩;rw[A1];intro c d;obtain⟨n,g,rfl⟩:=List.mem_iff_getElem.1 d;rw[a]at g;rw[List.getElem_take,C6];exact SG (f:=DU) (i:=DR l i) Y (by show _<EZ l (DR l i);omega) Y
theorem Lp{ds:List UInt8}(a:i<=l.length)(h:Xp l i=.ok (ds,p) k):i<k/\k<=l.length:=by
 have:=X9 a h;omega
theorem Yo(h:Xo l j c=true):j<l.length:=by
 unfold Xo at h;rcases AZ j l.length with a|a
 . exact a
 . rw[AP a]at h;simp at h
theorem XF(a:i<=l.length):DR l i<=l.length:=Lm a
theorem GD(l:List UInt8)(i:Nat):i<=DR l i:=Ll _ _ _
theorem Lq{c:Rat}(f:i<=l.length)(h:YG l i=.ok c k):i<k/\k<=l.length:=by
 unfold YG at h;split at h
 . cases h
 . rename_i ds p g b;have d:=Lp f b;have n:=GD l g;have o:=XF d.2;split at h
   . rename_i a;have a:=Yo a;split at h
     . cases h
     . rename_i j r m e;have q:=Lp Y e;split at h
       . cases h
       . cases h;omega
   . cases h;omega
theorem Lr(c:i<=l.length)(h:ES l i=.ok n k):i<=k/\k<=l.length/\n<=8:=by
 unfold ES at h;have e:=GD l i;have f:=XF c;split at h
 . rename_i a;have a:=Yo a;split at h
   . cases h
   . rename_i d j m b;have g:=Lp Y b;split at h
     . cases h
     . cases h;omega
 . cases h;omega
theorem Ls{c:Rat}(j:i<=l.length)(h:YU l i=.ok (c,n) k):i<k/\k<=l.length/\n<=8:=by
 unfold YU at h;have q:=GD l i;have f:=XF j;split at h
 . split at h
   . cases h
   . rename_i c' o d;have e:=Lq f d;have r:=GD l o;have s:=XF e.2;split at h
     . rename_i a;have a:=Yo a;split at h
       . cases h
       . rename_i p m b;have g:=Lr Y b;cases h;omega
     . cases h;omega
 . split at h
   . rename_i a;have a:=Yo a;split at h
     . cases h
     . rename_i p m b;have g:=Lr Y b;cases h;omega
   . cases h
def Ii(u u1 d1 d0 q r:Nat):Prop:=
 q*d1+r=u/\(u*4294967296+u1)/(d1*4294967296+d0)<=q/\q<=4294967297/\r<4294967296
theorem Nv(c:2147483648<=d1)(d:d1<4294967296)(b:d0<4294967296)(j:u1<4294967296)(i:u<d1*4294967296+d0):
 Ii u u1 d1 d0 (u/d1) (u%d1):=by
 have f:=Cf u d1;have g:u%d1<d1:=Ck _ Y;have e:d1*(u/d1)=u/d1*d1:=Av _ _;refine⟨Y,?_,?_,Y⟩
 . apply FC;rw[A0 Y];have a:(u/d1+1)*(d1*4294967296+d0)=u/d1*d1*4294967296+d1*4294967296+(u/d1+1)*d0:=by
    rw[AO,<-AH,AE (u/d1) 1 d1,Ct,AE (u/d1*d1) d1]
   rw[Nat.succ_eq_add_one,a];generalize u/d1*d1=p at *;generalize (u/d1+1)*d0=z;omega
 . apply FC;rw[A0 Y];omega
theorem Nw(h:Ii u u1 d1 d0 q r)(d:0<d1)(c:q*d0<=4294967296*r+u1):q=(u*4294967296+u1)/(d1*4294967296+d0):=by
 obtain⟨b,a,_,_⟩:=h;apply Nat.le_antisymm _ a;rw[Fy Y,AO,<-AH];generalize q*d1=p at *;generalize q*d0=z at *;omega
theorem Nx(h:Ii u u1 d1 d0 q r)(j:2147483648<=d1)(l:u1<4294967296)(k:u<d1*4294967296+d0)(a:4294967296<=q\/4294967296*r+u1<q*d0):
 1<=q/\(q-1)*d1+(r+d1)=u/\(u*4294967296+u1)/(d1*4294967296+d0)<=q-1/\q-1<=4294967296:=by
 obtain⟨c,d,f,g⟩:=h;have hq:1<=q:=by
  rcases a with a|a
  . omega
  . rcases Ca q with b|b
    . rw[b]at a;omega
    . exact b
 have e:(q-1)*d1+d1=q*d1:=by
  conv=>rhs;rw[show q=q-1+1 from by omega,AE,Ct]
 refine⟨hq,Y,?_,Y⟩;apply FC;rw[Nat.succ_eq_add_one,Nat.sub_add_cancel hq,A0 Y];rcases a with a|a
 . have i:4294967296*(d1*4294967296+d0)<=q*(d1*4294967296+d0):=Am _ a;omega
 . rw[AO,<-AH];generalize q*d1=p at *;generalize q*d0=z at *;omega
theorem KR(d:q*d1+r=u)(a:(u*4294967296+u1)/(d1*4294967296+d0)<=q)(b:q<=4294967296)(c:d0<4294967296)(f:0<d1)(g:4294967296<=r):q=(u*4294967296+u1)/(d1*4294967296+d0):=by
 apply Nat.le_antisymm _ a;rw[Fy Y,AO,<-AH];have e:q*d0<=4294967296*d0:=Am _ b;generalize q*d1=p at *;generalize q*d0=z at *;omega
theorem SI{t un0:Nat}(a:0<d):t/d*k+(t%d*k+un0)/d=(t*k+un0)/d/\(t%d*k+un0)%d=(t*k+un0)%d:=by
 have b:=Cf t d;have e:t*k+un0=d*(t/d*k)+(t%d*k+un0):=by
  conv=>lhs;rw[<-b,AE,AH]
  omega
 rw[e,Nat.mul_add_div a,Nat.mul_add_mod];exact⟨rfl,rfl⟩
theorem SJ{a s:Nat}:(a*2^s)/(y*2^s)=a/y/\(a*2^s)%(y*2^s)=a%y*2^s:=
 ⟨Nat.mul_div_mul_right _ _ (A8 s),Nat.mul_mod_mul_right _ _ _⟩
def KS(B u u1 d1 d0 q r:Nat):Prop:=
 q*d1+r=u/\(u*B+u1)/(d1*B+d0)<=q/\q<B/\r<B
theorem SK(a:0<d1)(f:d1<B)(j:u1<B)(d:u<d1*B):KS B u u1 d1 d0 (u/d1) (u%d1):=by
 have g:=Cf u d1;have i:u%d1<d1:=Ck _ a;have e:d1*(u/d1)=u/d1*d1:=Av _ _;have hp:0<d1*B:=FL a Y;refine⟨Y,?_,?_,Y⟩
 . apply FC;rw[A0 Y,Nat.succ_eq_add_one];have b:(u/d1+1)*(d1*B+d0)=(u/d1*d1+d1)*B+(u/d1+1)*d0:=by grind
   rw[b];have c:(u+1)*B<=(u/d1*d1+d1)*B:=Am _ Y;rw[AE,Ct]at c;generalize (u/d1+1)*d0=z;omega
 . rw[A0 a,Av];exact d
theorem Lt(a:q*d1+r=u)(b:(u*B+u1)/(d1*B+d0)<=q)(d:0<d1*B)(c:q*d0<=r*B+u1):q=(u*B+u1)/(d1*B+d0):=by
 apply Nat.le_antisymm _ b;rw[Fy Y,AO,<-AH,<-a,AE];omega
theorem SL(h:KS B u u1 d1 d0 q r)(i:0<d1*B)(c:r*B+u1<q*d0):
 1<=q/\(q-1)*d1+(r+d1)=u/\(u*B+u1)/(d1*B+d0)<=q-1/\q-1<B:=by
 obtain⟨b,d,f,g⟩:=h;have hq:1<=q:=by
  rcases Ca q with a|a
  . rw[a]at c;omega
  . exact a
 have e:(q-1)*d1+d1=q*d1:=by
  rw[<-Nat.succ_mul];congr 1;omega
 refine⟨hq,Y,?_,Y⟩;apply FC;rw[Nat.succ_eq_add_one,Nat.sub_add_cancel hq,A0 Y,AO,<-AH,<-b,AE];omega
theorem SM(a:q*d1+r=u)(b:(u*B+u1)/(d1*B+d0)<=q)(f:q<B)(e:d0<B)(c:0<d1*B)(d:B<=r):q=(u*B+u1)/(d1*B+d0):=by
 apply Lt a b c;have g:q*d0<=B*d0:=Am _ Y;have i:B*d0<=B*B:=As _ Y;have j:B*B<=r*B:=Am _ d;omega
def GE(R V g:Nat):Prop:=R<(g+1)*V/\g*V<=R+V
theorem SN{T:Nat}(c:R=T*E+lo)(a:V=o*E+lo2)(k:lo<E)(l:lo2<E)(p:T/o<=o)(i:0<o):GE R V (T/o):=by
 have m:=Cf T o;have n:=Ck T i;generalize T/o=g at *;generalize T%o=t at *;have d:(T+1)*E<=(o*g+o)*E:=Am _ Y;have e:(g+1)*V=(o*g+o)*E+(g+1)*lo2:=by rw[a];grind
 have j:g*lo2<=g*E:=As _ Y;have b:(o*g+g)*E<=(T+o)*E:=Am _ Y;have f:g*V=o*g*E+g*lo2:=by rw[a];grind
 rw[AE]at d b;refine⟨?_,?_⟩
 . rw[e,c];generalize (g+1)*lo2=z;omega
 . rw[f,c,a];rw[AE]at b;omega
theorem SO(a:R=d1*(B*E)+lo)(d:V=d1*E+lo2)(i:lo2<E)(k:B<=2*d1)(b:R<V*B)(j:2<=B):GE R V (B-1):=by
 refine⟨by rw[Nat.sub_add_cancel Y,Av];exact b,?_⟩;obtain⟨c,rfl⟩:∃c,B=c+2:=⟨B-2,Y⟩;rw[show c+2-1=c+1 from by omega,AE,Ct];apply Nat.add_le_add_right;rw[a,d,AO];have e:c*lo2<=c*E:=As _ Y;have f:c*E<=2*d1*E:=Am _ Y;have g:d1*((c+2)*E)=c*(d1*E)+2*d1*E:=by grind
 omega
theorem SP(h:GE R V g)(hq:q+V*g=R):g=R/V/\q=R%V:=by
 have c:g*V=V*g:=Av _ _;have b:=h.1;rw[AE,Ct]at b;have a:q<V:=Y
 rw[<-hq];exact⟨by rw[C5 _ _ Y,Cg a,A9],by rw[CM,Cl a]⟩
theorem SQ{P q2 c2:Nat}(h:GE R V g)(hq:q+V*g=R+P)(n:q<P)(l:q2+P*c2=q+V)(m:q2<P)(j:c2<=1):1<=g/\g-1=R/V/\q2=R%V:=by
 have i:=h.2;have k:g*V=V*g:=Av _ _;have c:1<=g:=by
  rcases Ca g with a|a
  . rw[a]at hq;omega
  . exact a
 have e:V*(g-1)+V=V*g:=by rw[<-Nat.mul_succ];congr 1;omega
 have f:c2=1:=by
  rcases(by omega:c2=0\/c2=1)with a|a
  . subst a;omega
  . exact a
 subst f;have d:q2+V*(g-1)=R:=Y
 have b:q2<V:=Y
 rw[<-d];exact⟨c,by rw[C5 _ _ Y,Cg b,A9],by rw[CM,Cl b]⟩
def YY(x y:Nat):Nat:=(x-y)+(y-x)
def E0(H L:Nat)(s:Int)(h l c nb b a:Nat):Prop:=
 (s=1\/s=-1)/\H=nb*l+a*h/\L=c*l+b*h/\(c:Int)*a-nb*b=s/\b<=a/\c+b<=nb+a/\1<=a/\l<=h
theorem E0.start(h:L<=H):E0 H L 1 H L 1 0 0 1:=
 ⟨Or.inl rfl,Y,Y,Y,Y,Y,Y,h⟩
theorem E0.step{l:Nat}(hs:E0 H L s h l o nb v w)(hl:1<=l):
 E0 H L (-s) l (h%l) v w (o+h/l*v) (nb+h/l*w):=by
 obtain⟨k,b,c,d,a,m,n,p⟩:=hs;have e:=Cf h l;have hq:1<=h/l:=(Fy Y).2 Y;have t:h%l<l:=Ck _ Y;generalize h/l=q at *;generalize h%l=r at *;subst e;have g:q*v<=q*w:=As q a;have i:(q-1)*v<=(q-1)*w:=As _ a;have j:(q-1)*v+v=q*v:=by
  rw[<-Nat.succ_mul];congr 1;omega
 have f:(q-1)*w+w=q*w:=by
  rw[<-Nat.succ_mul];congr 1;omega
 refine⟨Y,by rw[b];grind,by rw[c];grind,?_,Y,Y,Y,Y⟩;rw[<-d];push_cast
 grind
theorem E0.small{l:Nat}(hs:E0 H L s h l o nb v w)(hl:1<=l):nb+w<=H/\o+v<=L:=by
 obtain⟨e,f,g,i,j,k,m,n⟩:=hs;have a:nb<=nb*l:=Cc nb hl;have b:w<=w*h:=Cc w Y;have c:o<=o*l:=Cc o hl;have d:v<=v*h:=Cc v Y;omega
def GL(A B b c a nb:Nat):Prop:=
 A=c*YY (a*A) (nb*B)+nb*YY (b*A) (c*B)/\B=b*YY (a*A) (nb*B)+a*YY (b*A) (c*B)/\
 YY (a*A) (nb*B)<YY (b*A) (c*B)/\1<=nb
theorem Ny{x:Nat}{z:Int}(a:0<=z)(h:z=(x:Int)-y\/z=(y:Int)-x):(YY x y:Int)=z:=by
 unfold YY;omega
theorem E0.out{S al be l:Nat}(hs:E0 H L s h l o nb v w)(F:A=H*S+al)(G:B=L*S+be)(p:al<S)(q:be<S)
(hl:w<=l)(I:nb+w<=h-l):GL A B o nb v w:=by
 obtain⟨b,y,z,d,C,D,E,K⟩:=hs;have k:(H:Int)=nb*l+w*h:=by rw[y];push_cast;rfl
 have m:(L:Int)=o*l+v*h:=by rw[z];push_cast;rfl
 have i:(A:Int)=H*S+al:=by rw[F];push_cast;rfl
 have j:(B:Int)=L*S+be:=by rw[G];push_cast;rfl
 have c:s*s=1:=by rcases b with rfl|rfl<;>rfl
 obtain⟨X,e⟩:∃X:Int,X=s*(o*A-nb*B):=⟨_,rfl⟩;obtain⟨a,f⟩:∃a:Int,a=-s*(v*A-w*B):=⟨_,rfl⟩;have x1:X=(h:Int)*S+s*(o*al-nb*be):=by
  have:X=(s*(o*w-nb*v))*h*S+s*(o*al-nb*be):=by rw[e,i,j,k,m];grind
  rw[this,d,c];grind
 have r:a=(l:Int)*S-s*(v*al-w*be):=by
  have:a=(s*(o*w-nb*v))*l*S-s*(v*al-w*be):=by rw[f,i,j,k,m];grind
  rw[this,d,c];grind
 have c1:(v:Int)*al<=w*al:=by exact_mod_cast Am al C
 have c2:(w:Int)*al<w*S:=by exact_mod_cast Fh p Y
 have c3:(w:Int)*be<w*S:=by exact_mod_cast Fh q Y
 have c4:(w:Int)*S<=l*S:=by exact_mod_cast Am S hl
 have d1:((o+v:Nat):Int)*al<=(nb+w:Nat)*al:=by exact_mod_cast Am al D
 have t:((nb+w:Nat):Int)*al<(nb+w:Nat)*S:=by exact_mod_cast Fh p Y
 have u:((nb+w:Nat):Int)*be<(nb+w:Nat)*S:=by exact_mod_cast Fh q Y
 have g:((nb+w:Nat):Int)*S<=(h-l:Nat)*S:=by exact_mod_cast Am S I
 have x:((h-l:Nat):Int)=h-l:=Y
 rw[x]at g;simp only[Int.natCast_add,Int.add_mul,Int.sub_mul]at d1 t u g;have P:(0:Int)<=w*be:=by exact_mod_cast AK _
 have Q:(0:Int)<=v*al:=by exact_mod_cast AK _
 have R:(0:Int)<=o*al:=by exact_mod_cast AK _
 have T:(0:Int)<=nb*be:=by exact_mod_cast AK _
 have N:0<a:=by
  rw[r];rcases b with rfl|rfl<;>omega
 have M:a<X:=by
  rw[x1,r];rcases b with rfl|rfl<;>omega
 have ex:(YY (o*A) (nb*B):Int)=X:=Ny Y (by push_cast;rw[e];rcases b with rfl|rfl<;>omega);have n:(YY (v*A) (w*B):Int)=a:=Ny Y (by push_cast;rw[f];rcases b with rfl|rfl<;>omega);refine⟨?_,?_,Y,E⟩
 . have:(A:Int)=nb*a+w*X:=by
    have:(nb:Int)*a+w*X=(s*(o*w-nb*v))*A:=by rw[e,f];grind
    rw[this,d,c];omega
   rw[<-ex,<-n]at this;exact_mod_cast this
 . have:(B:Int)=o*a+v*X:=by
    have:(o:Int)*a+v*X=(s*(o*w-nb*v))*B:=by rw[e,f];grind
    rw[this,d,c];omega
   rw[<-ex,<-n]at this;exact_mod_cast this
theorem GL.gcd{A B d e c nb:Nat}(h:GL A B d e c nb):Nat.gcd (YY (d*A) (e*B)) (YY (c*A) (nb*B))=Nat.gcd A B:=by
 obtain⟨i,j,_,_⟩:=h;apply Nat.dvd_antisymm
 . have a:=Fg (YY (d*A) (e*B)) (YY (c*A) (nb*B));have b:=CU (YY (d*A) (e*B)) (YY (c*A) (nb*B));generalize Nat.gcd (YY (d*A) (e*B)) (YY (c*A) (nb*B))=g at *;apply Nat.dvd_gcd
   . rw[i];exact Nat.dvd_add (Cw b _) (Cw a _)
   . rw[j];exact Nat.dvd_add (Cw b _) (Cw a _)
 . have a:=Fg A B;have b:=CU A B;generalize Nat.gcd A B=g at *;have f:∀x y:Nat,g∣YY (x*A) (y*B):=λx y=>by
    unfold YY;exact Nat.dvd_add (Nat.dvd_sub (Cw a _) (Cw b _)) (Nat.dvd_sub (Cw b _) (Cw a _))
   exact Nat.dvd_gcd (f _ _) (f _ _)
theorem GL.less(h:GL A B o v w nb)(hp:v≠0)(g:0<B):YY (o*A) (v*B)+YY (w*A) (nb*B)<A+B:=by
 obtain⟨c,d,e,f⟩:=h;have a:YY (w*A) (nb*B)<=v*YY (w*A) (nb*B):=Cz _ Y;have b:YY (o*A) (v*B)<=nb*YY (o*A) (v*B):=Cz _ Y;omega
