import Derived.Test.YtcahejkcdcjjgaaGreatDoorW01
set_option linter.all false
set_option maxRecDepth 99999
set_option maxHeartbeats 0
namespace Go.Proofs.YtcahejkcdcjjgaaGreatDoor
def DH:=@Nat.mul_pos
def Bo:=@decide_eq_false_iff_not
def Bb:=@decide_eq_true_eq
def val(B:Nat):Ja->Nat
 |[]=>0
 |d::ds=>d+B*val B ds
def DK(B:Nat)(ds:Ja):Prop:=∀d∈ds,d<B
def E9(B:Nat):Nat->Nat->Ja
 |0,_=>[]
 |k+1,n=>if n=0\/B<2 then []else n%B::E9 B k (n/B)
def Jb(B n:Nat):Ja:=E9 B n n
theorem Mh(B:Nat):∀(k n m:Nat),n<=k->n<=m->E9 B k n=E9 B m n
 |0,n,m,h,_=>by
  have:n=0:=O
  subst this;cases m with
  |zero=>rfl
  |succ m=>rw[E9,E9,BL (Ar J)]
 |k+1,n,0,_,h=>by
  grind[E9]
 |k+1,n,m+1,a,b=>by
  rw[E9,E9];by_cases h:n=0\/B<2
  . rw[BL h,BL h]
  . have c:n/B<n:=C8 O O;rw[BH h,BH h,Mh B k (n/B) m O O]
def Js:Ja->Ja
 |[]=>[]
 |d::ds=>match Js ds with
  |[]=>if d=0 then []else [d]
  |e::es=>d::e::es
variable{s z:Int}{D a b ds:Ja}{l:List UInt8}{A B C E F R V d d0 d1 g h i j k lo lo2 m n o p q r u u1 v w y:Nat}{c:UInt8}{f:UInt8->Bool}
theorem DK.nil(B:Nat):DK B []:=λ_ h=>by cases h
theorem DK.cons(h:d<B)(k:DK B ds):DK B (d::ds):=λx a=>by
 rcases List.mem_cons.1 a with rfl|a
 . exact h
 . exact k x a
def DK.head(h:DK B (d::ds)):d<B:=h d (Ct ..)
def DK.tail(h:DK B (d::ds)):DK B ds:=λx a=>h x (List.mem_cons_of_mem _ a)
def DK.append(h:DK B a)(k:DK B b):DK B (a++b):=λx c=>by
 rcases Cs.1 c with c|c
 . exact h x c
 . exact k x c
def DK.left(h:DK B (a++b)):DK B a:=λx c=>h x (Cs.2 (Ar c))
def DK.right(h:DK B (a++b)):DK B b:=λx c=>h x (Cs.2 (Ax c))
theorem Gx(B:Nat):val B []=0:=rfl
theorem JT(B d:Nat)(ds:Ja):val B (d::ds)=d+B*val B ds:=rfl
theorem val_append(B:Nat):∀(a b:Ja),val B (a++b)=val B a+B^a.length*val B b
 |[],b=>by simp[val]
 |d::a,b=>by
  simp only[Am,JT,val_append B a b,Af,Cc];grind
theorem J7{B:Nat}:∀ {ds:Ja},DK B ds->val B ds<B^ds.length
 |[],_=>by simp[val]
 |d::ds,h=>by
  have b:=h.head;have a:=J7 h.tail;simp only[JT,Af,Cc];have c:B*val B ds+B<=B*B^ds.length:=by
   rw[<-Nat.mul_succ];exact AA _ a
  grind
theorem Jv(B:Nat):Jb B 0=[]:=rfl
theorem Xd(b:2<=B)(c:n≠0):Jb B n=n%B::Jb B (n/B):=by
 unfold Jb;obtain⟨m,rfl⟩:∃m,n=m+1:=⟨n-1,O⟩;have a:(m+1)/B<m+1:=C8 O O;grind[E9,Mh]
theorem Jn(b:2<=B)(n:Nat):val B (Jb B n)=n:=by
 induction n using Nat.strongRecOn with
 |ind n c=>
  by_cases a:n=0
  . subst a;rw[Jv];rfl
  grind[Xd,JT,C8,Nat.mod_add_div]
theorem Jm(a:2<=B)(n:Nat):DK B (Jb B n):=by
 induction n using Nat.strongRecOn with
 |ind n b=>
  grind[Jv,DK.nil,Xd,DK.cons,AV,C8]
theorem Jz(a:2<=B):Jb B n=[]↔n=0:=by
 constructor
 . intro h;have:=Jn a n;rw[h]at this;exact this.symm
 . intro h;rw[h,Jv]
theorem Y6(h:Js ds=[]):Js (d::ds)=if d=0 then []else [d]:=by
 simp only[Js,h]
theorem XE(h:Js ds≠[]):Js (d::ds)=d::Js ds:=by
 grind[Js]
theorem IV(B:Nat):∀(ds:Ja),val B (Js ds)=val B ds
 |[]=>rfl
 |d::ds=>by
  by_cases h:Js ds=[]
  . have:=IV B ds;grind[Y6,val]
  . rw[XE h,JT,JT,IV B ds]
theorem JQ{B:Nat}(e:2<=B):∀ {ds:Ja},DK B ds->Jb B (val B ds)=Js ds
 |[],_=>by rw[Gx,Jv];rfl
 |d::ds,h=>by
  have c:=h.head;have k:=JQ e h.tail;rw[JT];by_cases j:d+B*val B ds=0
  . have l:d=0:=O
    have i:val B ds=0:=by
     rcases AQ (val B ds)with b|b
     . exact b
     . have:0<B*val B ds:=DH O b
       omega
    grind[Jv,Y6]
  . rw[Xd e j];have f:(d+B*val B ds)%B=d:=by rw[Co];exact Cf c
    have g:(d+B*val B ds)/B=val B ds:=by
     rw[CB _ _ O,A3 c,Cn]
    rw[f,g,k];by_cases a:Js ds=[]
    . rw[Y6 a,a];have i:val B ds=0:=by rw[<-IV B ds,a];rfl
      grind
    . rw[XE a]
def EG(ds:Ja):Prop:=Js ds=ds
def J8(a:2<=B)(n:Nat):EG (Jb B n):=by
 have h:=JQ a (Jm a n);rw[Jn a]at h;exact h.symm
theorem Y2(a:2<=B)(h:DK B ds)(b:EG ds):Jb B (val B ds)=ds:=(JQ a h).trans b
theorem Y3:∀(ds:Ja) {d:Nat},d≠0->Js (ds++[d])=ds++[d]
 |[],d,h=>by simp[Js,h]
 |e::ds,d,h=>by
  have a:=Y3 ds h;rw[Am,XE (by rw[a];simp),a]
theorem Yr:∀(ds:Ja),Js (ds++[0])=Js ds
 |[]=>by simp[Js]
 |e::ds=>by
  have a:=Yr ds;grind[Js]
theorem Mi(ds:Ja)(k:Nat)(n:k<=ds.length)(d:∀j,k<=j->j<ds.length->ds[j]?=some 0):Js (ds.take k)=Js ds:=by
 obtain⟨m,a⟩:∃m,ds.length=k+m:=⟨ds.length-k,O⟩;induction m generalizing ds with
 |zero=>grind
 |succ m c=>
  have o:ds≠[]:=by intro e;rw[e]at a;simp at a
  have hl:ds=ds.take (k+m)++[0]:=by
   apply List.ext_getElem?;intro i;by_cases l:i<k+m
   . grind
   . grind
  have b:(ds.take (k+m)).length=k+m:=by rw[Ai];omega
  have:=c (ds.take (k+m)) O (by
   intro j f g;grind) b
  grind[Yr]
theorem P4(ds:Ja)(k:Nat)(b:k<ds.length)(c:ds[k]?≠some 0)(a:∀j,k<j->j<ds.length->ds[j]?=some 0):Js ds=ds.take (k+1):=by
 grind[Mi,AR,Y3]
def P5(ds:Ja)(a:∀j,j<ds.length->ds[j]?=some 0):Js ds=[]:=by
 have:=Mi ds 0 O λj _ h=>a j h;rw[<-this];simp[Js]
def Mj{B:Nat}:∀ {ds:Ja},DK B ds->DK B (Js ds)
 |[],h=>h
 |d::ds,h=>by
  by_cases a:Js ds=[]
  . rw[Y6 a];split
    . exact DK.nil B
    . exact DK.cons h.head (DK.nil B)
  . rw[XE a];exact DK.cons h.head (Mj h.tail)
theorem Xi:∀(ds:Ja),(Js ds).length<=ds.length
 |[]=>by simp[Js]
 |d::ds=>by
  have:=Xi ds;grind[Js]
theorem JE(a:2<=B)(h:n<B^k):(Jb B n).length<=k:=by
 induction k generalizing n with
 |zero=>
  grind[Jv]
 |succ k b=>
  grind[Xd,Nat.div_lt_of_lt_mul]
def Mk(b:2<=B)(h:(Jb B n).length=k+1):B^k<=n:=by
 rcases AF n (B^k)with a|a
 . have:=JE b a;omega
 . exact a
def Ys(a:2<=B)(h:(Jb B m).length<(Jb B n).length):m<n:=by
 have b:m<B^(Jb B m).length:=by
  have:=J7 (Jm a m);rwa[Jn a]at this
 have c:B^((Jb B n).length-1)<=n:=Mk a O;have d:B^(Jb B m).length<=B^((Jb B n).length-1):=Au O O;omega
def YG(m n:Nat):Int:=if m<n then -1 else if n<m then 1 else 0
theorem Kr(m:Nat):YG m m=0:=by simp[YG]
theorem XF(h:m<n):YG m n=-1:=by simp[YG,h]
theorem GR(h:n<m):YG m n=1:=by
 grind[YG]
theorem Ml(ds:Ja)(k:Nat)(a:k<ds.length):val B ds=val B (ds.take k)+B^k*(ds[k]?.getD 0+B*val B (ds.drop (k+1))):=by
 grind[A0,AD,val_append,JT]
def DK.take{B:Nat}{ds:Ja}(h:DK B ds)(k:Nat):DK B (ds.take k):=λx a=>h x (C3 a)
def DK.drop{B:Nat}{ds:Ja}(h:DK B ds)(k:Nat):DK B (ds.drop k):=λx a=>h x (List.mem_of_mem_drop a)
def DK.get(h:DK B ds)(a:k<ds.length):ds[k]?.getD 0<B:=by
 rw[Aq a];exact h _ (C5 a)
theorem DK.getD{B:Nat}{ds:Ja}(h:DK B ds)(b:0<B)(k:Nat):ds[k]?.getD 0<B:=by
 rcases AF k ds.length with a|a
 . exact h.get a
 grind
theorem Ks(e:DK B a)(hl:a.length=b.length)(k:Nat)(g:k<a.length)(f:a.drop (k+1)=b.drop (k+1))(h:a[k]?.getD 0<b[k]?.getD 0):val B a<val B b:=by
 rw[Ml a k g,Ml b k O,<-f];have c:=J7 (e.take k);have d:(a.take k).length=k:=by rw[Ai];omega
 rw[d]at c;have i:B^k*(a[k]?.getD 0+B*val B (a.drop (k+1)))+B^k<=B^k*(b[k]?.getD 0+B*val B (a.drop (k+1))):=by
  rw[<-Nat.mul_succ];exact AA _ O
 omega
theorem Mm(hl:a.length=b.length)(k:Nat)(d:k<a.length)(c:a.drop (k+1)=b.drop (k+1))(h:a[k]?.getD 0=b[k]?.getD 0):a.drop k=b.drop k:=by
 grind[AD]
theorem Yk(c:2<=B)(d:DK B a)(e:DK B b)(f:EG a)(g:EG b)(h:a.length<b.length):val B a<val B b:=by
 apply Ys c;grind[Y2]
theorem Jp(B:Nat)(ds:Ja)(k:Nat):val B (ds.take (k+1))=val B (ds.take k)+B^k*ds[k]?.getD 0:=by
 grind[AR,val_append,val,Ac]
theorem Ye(B:Nat)(ds:Ja)(d:Nat):val B (ds++[d])=val B ds+B^ds.length*d:=by
 rw[val_append];simp[val]
theorem Kt(c:2<=B)(h:DK B ds)(hp:ds=[]\/B^(ds.length-1)<=val B ds):EG ds:=by
 rcases hp with rfl|hp
 . rfl
 . have a:=Xi ds;rcases AF (Js ds).length ds.length with g|e
   . have b:=J7 (Mj h);rw[IV]at b;have f:B^(Js ds).length<=B^(ds.length-1):=Au O O;omega
   . have hl:(Js ds).length=ds.length:=O
     clear a e hp h c;unfold EG;induction ds with
     |nil=>rfl
     |cons d ds i=>
      grind[Js]
theorem P6(a:Ja)(c s A:Nat)(h:val B a+B^a.length*c=A):val B (a++[(c+s)%B])+B^(a.length+1)*((c+s)/B)=A+B^a.length*s:=by
 grind[Ye,Nat.mod_add_div]
def YM(a:2<=B)(h:(Jb B n).length=k)(b:k≠0):B^(k-1)<=n:=Mk a O
theorem P7(b:2<=B){a:Ja}(d:DK B a)(e:val B a=m+n)
(hl:a.length<=max (Jb B m).length (Jb B n).length\/B^(a.length-1)<=val B a)(hle:max (Jb B m).length (Jb B n).length<=a.length):a=Jb B (m+n):=by
 rw[<-e];refine(Y2 b d (Kt b d ?_)).symm;by_cases c:a.length=0
 . grind
 . right
   rcases hl with hl|hl
   . have f:a.length=max (Jb B m).length (Jb B n).length:=O
     rcases Nat.le_total (Jb B m).length (Jb B n).length with h|h
     . have:=YM b (n:=n) (k:=a.length) O c;omega
     . have:=YM b (n:=m) (k:=a.length) O c;omega
   . exact hl
def EH(d:Nat):UInt8:=UInt8.ofNat (48+d)
def Dx(ds:Ja):List UInt8:=(ds.map EH).reverse
def Y0(n:Nat):List UInt8:=if n=0 then [48]else Dx (Jb 10 n)
def YL(z:Int):List UInt8:=if z<0 then 45::Y0 z.natAbs else Y0 z.natAbs
def Ku(ds:Ja)(d:Nat):Dx (ds++[d])=EH d::Dx ds:=by simp[Dx]
theorem Mn(ds:Ja):(Dx ds).length=ds.length:=by simp[Dx]
def Xj(ds:Ja)(i k n:Nat)(D:Ja):Prop:=
 D.length=4*i+k/\DK 10 D/\k<=4/\n=ds[i]?.getD 0/10^k/\val 10 D+10^(4*i+k)*n=val 10000 (ds.take i)+10000^i*ds[i]?.getD 0/\(i+1<ds.length\/k=0\/10^(k-1)<=ds[i]?.getD 0)
def Kv(i:Nat):(10:Nat)^(4*i)=10000^i:=by rw[Nat.pow_mul]
def Xj.start(hl:D.length=4*i)(a:DK 10 D)(b:val 10 D=val 10000 (ds.take i)):Xj ds i 0 (ds[i]?.getD 0) D:=by
 refine⟨O,a,O,DJ,?_,Ax (Ar J)⟩;rw[A6,Kv,b]
theorem Xj.step(h:Xj ds i k n D)(j:k<4)(g:0<n\/i+1<ds.length):Xj ds i (k+1) (n/10) (D++[n%10]):=by
 obtain⟨c,a,d,b,e,f⟩:=h;refine⟨by simp;omega,a.append (DK.cons (AV _ O) (DK.nil _)),O,?_,?_,?_⟩
 . rw[b,Nat.div_div_eq_div_mul,<-Cc]
 . grind[Ye,Nat.mod_add_div]
 grind[Nat.div_pos_iff]
theorem Xj.next(h:Xj ds i 4 n D)(c:DK 10000 ds):D.length=4*(i+1)/\DK 10 D/\val 10 D=val 10000 (ds.take (i+1)):=by
 obtain⟨e,f,g,a,j,k⟩:=h;have b:=c.getD O i;have d:n=0:=by rw[a];exact A3 (by simpa using b)
 grind[Jp]
def Xj.last(h:Xj ds i k 0 D)(r:i+1=ds.length):D.length<=4*ds.length/\DK 10 D/\val 10 D=val 10000 ds/\(val 10000 ds≠0->EG ds->D=Jb 10 (val 10000 ds)):=by
 obtain⟨g,b,q,j,l,a⟩:=h;have e:val 10 D=val 10000 ds:=by
  have:=Jp 10000 ds i;rw[Ac O]at this;rw[this,<-l];simp
 refine⟨O,b,e,λt p=>?_⟩;rw[<-e];refine(Y2 O b (Kt O b ?_)).symm;have u:ds[i]?.getD 0≠0:=by
  intro c;have m:ds=ds.take i++[0]:=by
   conv=>lhs;rw[<-A0 i ds,AD (by omega:i<ds.length)]
   rw[An O];rw[Aq O]at c;have f:ds[i]=0:=c;rw[f]
  have n:(Js ds).length<=i:=by
   rw[m,Yr];have:=Xi (ds.take i);rw[Ai]at this;omega
  rw[p]at n;omega
 right
 rw[g,e];have s:k≠0:=by
  intro o;subst o;simp at j;omega
 rcases a with a|a|a
 . omega
 . omega
 . have:=Jp 10000 ds i;rw[Ac O]at this;rw[this];have d:(10:Nat)^(4*i+k-1)=10000^i*10^(k-1):=by
    rw[<-Kv,<-CC];congr 1;omega
   rw[d];have:=AA (10000^i) a;omega
theorem IW(h:n≠0):Y0 n=Dx (Jb 10 n):=by simp[Y0,h]
def DS(c:UInt8):Bool:=decide (48<=c.toNat)&&decide (c.toNat<=57)
def Dh(l:List UInt8):Ja:=(l.map λc=>c.toNat-48).reverse
def num(l:List UInt8):Nat:=val 10 (Dh l)
def JG(l:List UInt8):List UInt8:=if l.head?=some 45 then l.tail else l
def good(l:List UInt8):Bool:=decide (l.length<=2000) && !(JG l).isEmpty&&(!decide ((JG l).head?=some 48) || decide (l=[48]))&&(JG l).all DS
def Yu(l:List UInt8):Int:=if l.head?=some 45 then -(num (JG l):Int)else num (JG l)
theorem J4(h:DS c=true):48<=c.toNat/\c.toNat<=57:=by simpa[DS]using h
theorem Xw(h:d<10):(EH d).toNat=48+d:=by
 unfold EH;rw[UInt8.toNat_ofNat'];omega
theorem P8(h:DS c=true):EH (c.toNat-48)=c:=by
 grind[J4,CF,Xw]
def P9(l:List UInt8)(c:UInt8):Dh (l++[c])=(c.toNat-48)::Dh l:=by simp[Dh]
theorem IX(l:List UInt8)(c:UInt8):num (l++[c])=(c.toNat-48)+10*num l:=by rw[num,P9,JT];rfl
def QA(a b:List UInt8):Dh (a++b)=Dh b++Dh a:=by simp[Dh]
theorem X4(l:List UInt8):(Dh l).length=l.length:=by simp[Dh]
theorem Xx(a b:List UInt8):num (a++b)=num b+10^b.length*num a:=by rw[num,QA,val_append,X4];rfl
theorem IY(h:l.all DS=true):DK 10 (Dh l):=by
 intro d a;grind[Dh,J4]
theorem QB(h:l.all DS=true):Dx (Dh l)=l:=by
 simp only[Dx,Dh,List.map_reverse,List.reverse_reverse,List.map_map];conv=>rhs;rw[<-List.map_id l]
 grind[Cp,P8]
theorem QC(b:DS c=true)(a:c≠48):EG (Dh (c::l)):=by
 have e:Dh (c::l)=Dh l++[c.toNat-48]:=by simp[Dh]
 rw[e];refine Y3 _ ?_;have:=J4 b;intro h;apply a;apply CF.1;grind
theorem IZ(h:(c::l).all DS=true)(a:c≠48):Y0 (num (c::l))=c::l/\num (c::l)≠0:=by
 grind[Y2,IY,QC,num,Jv,X4,IW,QB]
theorem Mo(h:good l=true):YL (Yu l)=l:=by
 simp only[good,AN,Bb,Bool.or_eq_true,Cq,Bo]at h;obtain⟨⟨⟨_,j⟩,f⟩,a⟩:=h;cases e:JG l with
 |nil=>grind
 |cons c t=>
  rw[e]at f a;by_cases b:c=48
  . grind[Yu,JG,YL,Y0,num,Dh,val]
  . obtain⟨g,i⟩:=IZ a b;by_cases d:l.head?=some 45
    . have hl:l=45::c::t:=by
       cases l with
       |nil=>simp at d
       |cons x k=>
        grind[JG]
      grind[Yu,YL]
    grind[JG,Yu,YL]
def QD(h:DK 10 ds):(Dx ds).all DS=true:=by
 rw[AH];intro c a;simp only[Dx,List.mem_reverse,List.mem_map]at a;obtain⟨d,b,rfl⟩:=a;have:=h d b;simp[DS,Xw this];omega
def QE(h:DK 10 ds):num (Dx ds)=val 10 ds:=by
 have e:Dh (Dx ds)=ds:=by
  simp only[Dx,Dh,List.map_reverse,List.reverse_reverse,List.map_map];conv=>rhs;rw[<-List.map_id ds]
  apply Cp;intro d a;have:=h d a;simp[Xw this]
 rw[num,e]
theorem Ia(j:n≠0):∃c t,Y0 n=c::t/\c≠48/\c≠45/\(c::t).all DS=true/\num (c::t)=n:=by
 have a:=Jm (B:=10) O n;have k:=J8 (B:=10) O n;have q:=Jn (B:=10) O n;have m:Jb 10 n≠[]:=by rw[Ne,Jz O];exact j
 have f:=QD a;have b:=QE a;have e:Y0 n=Dx (Jb 10 n):=IW j;rw[q]at b;obtain⟨ds,d,p⟩:∃ds d,Jb 10 n=ds++[d]:=⟨_,_,(List.dropLast_concat_getLast m).symm⟩;rw[p]at f b e k a;rw[Ku]at f b e;have r:d≠0:=by
  intro o;subst o;have g:(Js (ds++[0])).length<=ds.length:=by rw[Yr];exact Xi ds
  rw[k]at g;simp at g;omega
 have l:d<10:=a d DJ;have i:=Xw l;refine⟨EH d,Dx ds,e,?_,?_,f,b⟩
 . intro h;rw[h]at i;grind
 . intro h;rw[h]at i;grind
theorem QF(h:(YL z).length<=2000):good (YL z)=true/\Yu (YL z)=z:=by
 by_cases a:z.natAbs=0
 . have:z=0:=O
   subst this;simp[YL,Y0,good,Yu,JG,num,Dh,val,DS]
 . obtain⟨c,t,e,d,b,f,g⟩:=Ia a;grind[YL,good,JG,Yu]
theorem QG(a:10<=B):(Jb B n).length<=(Jb 10 n).length:=by
 refine JE O ?_;have h:=J7 (Jm (B:=10) O n);grind[Jn,Ao,CS]
theorem QH(h:good l=true)(a:10<=B):(Jb B (Yu l).natAbs).length<=2000:=by
 grind[Mo,good,QG,Jv,IW,Mn,YL]
def YX(f:UInt8->Bool)(l:List UInt8)(i:Nat):Nat:=i+((l.drop i).takeWhile f).length
def DM(l:List UInt8)(i:Nat):Nat:=YX (·==32) l i
def Dy(l:List UInt8)(i:Nat):Nat:=YX DS l i
theorem QI(d:n<=l.length)(a:∀k (h:k<n),f l[k]=true)(e:∀h:n<l.length,f l[n]=false):(l.takeWhile f).length=n:=by
 induction l generalizing n with
 |nil=>simp at d ⊢;omega
 |cons c t g=>
  cases n with
  |zero=>
   grind[List.takeWhile_cons_of_neg]
  |succ n=>
   have:=a 0 O;simp at this;rw[List.takeWhile_cons_of_pos this,Af,g (n:=n) (by simpa using d) (λk b=>a (k+1) O) λb=>e (by simpa using b)]
theorem Ib(d:i<=j)(e:j<=l.length)(b:∀k (h:k<l.length),i<=k->k<j->f l[k]=true)(c:∀h:j<l.length,f l[j]=false):YX f l i=j:=by
 unfold YX;rw[QI (n:=j-i) DY]
 . omega
 . intro k a;grind
 . intro a;grind
theorem X5(f:UInt8->Bool)(l:List UInt8):(l.takeWhile f).length<=l.length/\(∀k (h:k<l.length),k<(l.takeWhile f).length->f l[k]=true)/\∀h:(l.takeWhile f).length<l.length,f (l[(l.takeWhile f).length]'h)=false:=by
 induction l with
 |nil=>simp
 |cons c t b=>
  by_cases a:f c=true
  . grind[List.takeWhile_cons_of_pos]
  grind[List.takeWhile_cons_of_neg]
def Kw(f:UInt8->Bool)(l:List UInt8)(i:Nat):i<=YX f l i:=Nat.le_add_right _ _
theorem Kx(a:i<=l.length):YX f l i<=l.length:=by
 grind[X5,YX]
theorem QJ(b:i<=k)(a:k<YX f l i)(h:k<l.length):f l[k]=true:=by
 have:=(X5 f (l.drop i)).2.1 (k-i) DY (by unfold YX at a;omega);grind
theorem Ky(h:YX f l i<l.length):f (l[YX f l i]'h)=false:=by
 grind[YX,X5]
def QK(f:UInt8->Bool)(l:List UInt8)(i:Nat):YX f l (YX f l i)=YX f l i:=by
 rcases AF (YX f l i) l.length with h|h
 . exact Ib (Aa _) O (λk _ b c=>by omega) λa=>Ky a
 . unfold YX;rw[show i+((l.drop i).takeWhile f).length=YX f l i from J,An h];rfl
def JU(l:List UInt8)(j:Nat)(c:UInt8):Bool:=l[j]?==some c
abbrev Rd(α:Type):=EStateM.Result Nat Nat α
def JM(l:List UInt8)(i:Nat):Rd (List UInt8 × Nat):=
 if Dy l (DM l i)=DM l i then .error 2 (DM l i)
 else if 12<Dy l (DM l i)-DM l i then .error 3 (DM l i)
 else .ok (((l.drop (DM l i)).take (Dy l (DM l i)-DM l i)),DM l i) (Dy l (DM l i))
def Yi(l:List UInt8)(i:Nat):Rd Rat:=
 match JM l i with
 |.error e p=>.error e p
 |.ok (ds,_) k=>
  if JU l (DM l k) 47 then
   match JM l (DM l k+1)with
   |.error e p=>.error e p
   |.ok (a,p) m=>if num a=0 then .error 4 p else .ok (Rat.divInt (num ds) (num a)) m
  else .ok ((num ds:Int):Rat) (DM l k)
def D7(l:List UInt8)(i:Nat):Rd Nat:=
 if JU l (DM l i) 94 then
  match JM l (DM l i+1)with
  |.error e p=>.error e p
  |.ok (ds,p) k=>if 8<num ds then .error 3 p else .ok (num ds) k
 else .ok 1 (DM l i)
def El(l:List UInt8)(j:Nat):Bool:=(l[j]?.map DS).getD false
def J5(l:List UInt8)(i:Nat):Rd (Rat × Nat):=
 if El l (DM l i)then
  match Yi l (DM l i)with
  |.error e p=>.error e p
  |.ok c k=>
   if JU l (DM l k) 120 then
    match D7 l (DM l k+1)with
    |.error e p=>.error e p
    |.ok n m=>.ok (c,n) m
   else .ok (c,0) (DM l k)
 else if JU l (DM l i) 120 then
  match D7 l (DM l i+1)with
  |.error e p=>.error e p
  |.ok n m=>.ok (1,n) m
 else .error 2 (DM l i)
def EC(l:List UInt8):Nat->Bool->Nat->K->Rd K
 |0,_,i,_=>.error 0 i
 |f+1,b,i,s=>
  match J5 l i with
  |.error e p=>.error e p
  |.ok (c,n) k=>
   let a:=s.set n (if b then cf s n-c else cf s n+c)
   if JU l (DM l k) 43 then EC l f false (DM l k+1) a
   else if JU l (DM l k) 45 then EC l f true (DM l k+1) a
   else if DM l k=l.length then .ok a (DM l k)
   else .error 2 (DM l k)
def J1(l:List UInt8):K × Nat × Nat:=
 if 300<l.length then([],1,0)
 else
  match (if JU l (DM l 0) 45 then EC l (l.length+1) true (DM l 0+1) (List.replicate 9 0)else EC l (l.length+1) false (DM l 0) (List.replicate 9 0))with
  |.error e p=>([],e,p)
  |.ok s _=>(Jg s,0,0)
def Fu{ds:List UInt8}(e:i<=l.length)(h:JM l i=.ok (ds,p) k):p=DM l i/\k=Dy l p/\i<=p/\p<k/\k<=l.length/\k-p<=12/\ds=(l.drop p).take (k-p)/\ds.length=k-p/\ds.all DS=true:=by
 unfold JM at h;split at h
 . cases h
 . split at h
   . cases h
   . rename_i j m;simp only[EStateM.Result.ok.injEq,Prod.mk.injEq]at h;obtain⟨⟨rfl,rfl⟩,rfl⟩:=h;have hs:DM l i<=l.length:=Kx e;have o:DM l i<=Dy l (DM l i):=Kw _ _ _;have b:Dy l (DM l i)<=l.length:=Kx hs;have a:((l.drop (DM l i)).take (Dy l (DM l i)-DM l i)).length=Dy l (DM l i)-DM l i:=by rw[Ai,AY];omega
     refine⟨J,J,Kw _ _ _,O,b,O,J,a,?_⟩;rw[AH];intro c d;obtain⟨n,g,rfl⟩:=List.mem_iff_getElem.1 d;rw[a]at g;rw[List.getElem_take,List.getElem_drop];exact QJ (f:=DS) (i:=DM l i) O (by show _<Dy l (DM l i);omega) O
def Kz{ds:List UInt8}(a:i<=l.length)(h:JM l i=.ok (ds,p) k):i<k/\k<=l.length:=by
 have:=Fu a h;omega
theorem Yc(h:JU l j c=true):j<l.length:=by
 grind[JU]
theorem Yq(a:i<=l.length):DM l i<=l.length:=Kx a
def Fv(l:List UInt8)(i:Nat):i<=DM l i:=Kw _ _ _
theorem Mp{c:Rat}(f:i<=l.length)(h:Yi l i=.ok c k):i<k/\k<=l.length:=by
 unfold Yi at h;split at h
 . cases h
 . rename_i ds p g b;have d:=Kz f b;have n:=Fv l g;have o:=Yq d.2;split at h
   . rename_i a;have a:=Yc a;split at h
     . cases h
     . rename_i j r m e;have q:=Kz O e;grind
   . cases h;omega
theorem Mq(c:i<=l.length)(h:D7 l i=.ok n k):i<=k/\k<=l.length/\n<=8:=by
 unfold D7 at h;have e:=Fv l i;have f:=Yq c;split at h
 . rename_i a;have a:=Yc a;split at h
   . cases h
   . rename_i d j m b;have g:=Kz O b;grind
 . cases h;omega
def K0{c:Rat}(j:i<=l.length)(h:J5 l i=.ok (c,n) k):i<k/\k<=l.length/\n<=8:=by
 unfold J5 at h;have q:=Fv l i;have f:=Yq j;split at h
 . split at h
   . cases h
   . rename_i c' o d;have e:=Mp f d;have r:=Fv l o;have s:=Yq e.2;split at h
     . rename_i a;have a:=Yc a;split at h
       . cases h
       . rename_i p m b;have g:=Mq O b;cases h;omega
     . cases h;omega
 . split at h
   . rename_i a;have a:=Yc a;split at h
     . cases h
     . rename_i p m b;have g:=Mq O b;cases h;omega
   . cases h
def Gy(u u1 d1 d0 q r:Nat):Prop:=
 q*d1+r=u/\(u*4294967296+u1)/(d1*4294967296+d0)<=q/\q<=4294967297/\r<4294967296
theorem Mr(b:2147483648<=d1)(c:d1<4294967296)(a:d0<4294967296)(i:u1<4294967296)(g:u<d1*4294967296+d0):
 Gy u u1 d1 d0 (u/d1) (u%d1):=by
 have e:=AZ u d1;have f:u%d1<d1:=AV _ O;have d:d1*(u/d1)=u/d1*d1:=AO _ _;refine⟨O,?_,?_,O⟩
 . apply Cu;rw[AC O];grind
 . apply Cu;rw[AC O];omega
theorem Ms(h:Gy u u1 d1 d0 q r)(d:0<d1)(c:q*d0<=4294967296*r+u1):q=(u*4294967296+u1)/(d1*4294967296+d0):=by
 obtain⟨a,b,_,_⟩:=h;grind[Nat.le_antisymm,CL]
theorem Mt(h:Gy u u1 d1 d0 q r)(j:2147483648<=d1)(l:u1<4294967296)(k:u<d1*4294967296+d0)(a:4294967296<=q\/4294967296*r+u1<q*d0):
 1<=q/\(q-1)*d1+(r+d1)=u/\(u*4294967296+u1)/(d1*4294967296+d0)<=q-1/\q-1<=4294967296:=by
 obtain⟨c,d,f,g⟩:=h;have b:1<=q:=by
  rcases a with a|a
  . omega
  . grind
 have e:(q-1)*d1+d1=q*d1:=by
  conv=>rhs;rw[show q=q-1+1 from by omega,A9,Fa]
 refine⟨b,O,?_,O⟩;apply Cu;rw[Nat.succ_eq_add_one,Nat.sub_add_cancel b,AC O];rcases a with a|a
 . have i:4294967296*(d1*4294967296+d0)<=q*(d1*4294967296+d0):=Ae _ a;omega
 grind
def Ic(d:q*d1+r=u)(a:(u*4294967296+u1)/(d1*4294967296+d0)<=q)(b:q<=4294967296)(c:d0<4294967296)(f:0<d1)(g:4294967296<=r):q=(u*4294967296+u1)/(d1*4294967296+d0):=by
 apply Nat.le_antisymm _ a;rw[CL O,CU,<-Cg];have e:q*d0<=4294967296*d0:=Ae _ b;omega
def Mu{t un0:Nat}(a:0<d):t/d*k+(t%d*k+un0)/d=(t*k+un0)/d/\(t%d*k+un0)%d=(t*k+un0)%d:=by
 have b:=AZ t d;have e:t*k+un0=d*(t/d*k)+(t%d*k+un0):=by
  conv=>lhs;rw[<-b,A9,Cg]
  omega
 rw[e,Nat.mul_add_div a,Nat.mul_add_mod];exact⟨J,J⟩
def QL{a s:Nat}:(a*2^s)/(y*2^s)=a/y/\(a*2^s)%(y*2^s)=a%y*2^s:=
 ⟨Nat.mul_div_mul_right _ _ (A4 s),Nat.mul_mod_mul_right _ _ _⟩
def Id(B u u1 d1 d0 q r:Nat):Prop:=
 q*d1+r=u/\(u*B+u1)/(d1*B+d0)<=q/\q<B/\r<B
theorem QM(a:0<d1)(f:d1<B)(j:u1<B)(c:u<d1*B):Id B u u1 d1 d0 (u/d1) (u%d1):=by
 have g:=AZ u d1;have i:u%d1<d1:=AV _ a;have e:d1*(u/d1)=u/d1*d1:=AO _ _;have hp:0<d1*B:=DH a O;refine⟨O,?_,?_,O⟩
 . apply Cu;rw[AC O,Nat.succ_eq_add_one];have b:(u/d1+1)*(d1*B+d0)=(u/d1*d1+d1)*B+(u/d1+1)*d0:=DY
   rw[b];have d:(u+1)*B<=(u/d1*d1+d1)*B:=Ae _ O;grind
 . rw[AC a,AO];exact c
def K1(a:q*d1+r=u)(b:(u*B+u1)/(d1*B+d0)<=q)(d:0<d1*B)(c:q*d0<=r*B+u1):q=(u*B+u1)/(d1*B+d0):=by
 apply Nat.le_antisymm _ b;rw[CL O,CU,<-Cg,<-a,A9];omega
def QN(h:Id B u u1 d1 d0 q r)(j:0<d1*B)(d:r*B+u1<q*d0):
 1<=q/\(q-1)*d1+(r+d1)=u/\(u*B+u1)/(d1*B+d0)<=q-1/\q-1<B:=by
 obtain⟨c,f,g,i⟩:=h;have b:1<=q:=by
  rcases AQ q with a|a
  . rw[a]at d;omega
  . exact a
 have e:(q-1)*d1+d1=q*d1:=by
  rw[<-Nat.succ_mul];congr 1;omega
 refine⟨b,O,?_,O⟩;apply Cu;rw[Nat.succ_eq_add_one,Nat.sub_add_cancel b,AC O,CU,<-Cg,<-c,A9];omega
def QO(a:q*d1+r=u)(b:(u*B+u1)/(d1*B+d0)<=q)(f:q<B)(e:d0<B)(c:0<d1*B)(d:B<=r):q=(u*B+u1)/(d1*B+d0):=by
 apply K1 a b c;have g:q*d0<=B*d0:=Ae _ O;have i:B*d0<=B*B:=AA _ O;have j:B*B<=r*B:=Ae _ d;omega
def FA(R V g:Nat):Prop:=R<(g+1)*V/\g*V<=R+V
theorem QP{T:Nat}(l:R=T*E+lo)(a:V=o*E+lo2)(j:lo<E)(k:lo2<E)(p:T/o<=o)(d:0<o):FA R V (T/o):=by
 have m:=AZ T o;have n:=AV T d;generalize T/o=g at *;generalize T%o=t at *;have b:(T+1)*E<=(o*g+o)*E:=Ae _ O;have e:(g+1)*V=(o*g+o)*E+(g+1)*lo2:=by rw[a];grind
 have f:g*lo2<=g*E:=AA _ O;have c:(o*g+g)*E<=(T+o)*E:=Ae _ O;have i:g*V=o*g*E+g*lo2:=by rw[a];grind
 rw[A9]at b c;refine⟨?_,?_⟩
 . omega
 grind
theorem QQ(a:R=d1*(B*E)+lo)(b:V=d1*E+lo2)(f:lo2<E)(j:B<=2*d1)(i:R<V*B)(g:2<=B):FA R V (B-1):=by
 refine⟨DY,?_⟩;obtain⟨c,rfl⟩:∃c,B=c+2:=⟨B-2,O⟩;rw[show c+2-1=c+1 from by omega,A9,Fa];apply Nat.add_le_add_right;rw[a,b,CU];have d:c*lo2<=c*E:=AA _ O;have e:c*E<=2*d1*E:=Ae _ O;grind
theorem QR(h:FA R V g)(b:q+V*g=R):g=R/V/\q=R%V:=by
 have hg:g*V=V*g:=AO _ _;have a:=h.1;rw[A9,Fa]at a;have c:q<V:=O
 grind[CB,A3,Co,Cf]
theorem QS{P q2 c2:Nat}(h:FA R V g)(c:q+V*g=R+P)(m:q<P)(k:q2+P*c2=q+V)(l:q2<P)(i:c2<=1):1<=g/\g-1=R/V/\q2=R%V:=by
 have d:=h.2;have hg:g*V=V*g:=AO _ _;have j:1<=g:=by
  rcases AQ g with a|a
  . rw[a]at c;omega
  . exact a
 have e:V*(g-1)+V=V*g:=by rw[<-Nat.mul_succ];congr 1;omega
 have b:c2=1:=by
  rcases(by omega:c2=0\/c2=1)with a|a
  . subst a;omega
  . exact a
 subst b;have f:q2+V*(g-1)=R:=O
 have n:q2<V:=O
 grind[CB,A3,Co,Cf]
def Xt(x y:Nat):Nat:=(x-y)+(y-x)
def Em(d e:Nat)(s:Int)(h l c nb b a:Nat):Prop:=
 (s=1\/s=-1)/\d=nb*l+a*h/\e=c*l+b*h/\(c:Int)*a-nb*b=s/\b<=a/\c+b<=nb+a/\1<=a/\l<=h
def Em.start(h:v<=o):Em o v 1 o v 1 0 0 1:=
 ⟨Ar J,O,O,O,O,O,O,h⟩
theorem Em.step{l nb:Nat}(hs:Em o v s h l w nb C F)(hl:1<=l):
 Em o v (-s) l (h%l) C F (w+h/l*C) (nb+h/l*F):=by
 obtain⟨n,c,d,p,a,t,u,x⟩:=hs;have e:=AZ h l;have b:1<=h/l:=(CL O).2 O;have y:h%l<l:=AV _ O;generalize h/l=q at *;generalize h%l=r at *;subst e;have g:q*C<=q*F:=AA q a;have i:C<=q*C:=Ch C b;have j:F<=q*F:=Ch F b;have k:(q-1)*C<=(q-1)*F:=AA _ a;have m:(q-1)*C+C=q*C:=by
  rw[<-Nat.succ_mul];congr 1;omega
 have f:(q-1)*F+F=q*F:=by
  rw[<-Nat.succ_mul];congr 1;omega
 refine⟨O,by rw[c];grind,by rw[d];grind,?_,O,O,O,O⟩;grind
def Em.small{l nb:Nat}(hs:Em o v s h l w nb C F)(hl:1<=l):nb+F<=o/\w+C<=v:=by
 obtain⟨e,f,g,i,j,k,m,n⟩:=hs;have a:nb<=nb*l:=Cl nb hl;have b:F<=F*h:=Cl F O;have c:w<=w*l:=Cl w hl;have d:C<=C*h:=Cl C O;omega
def FK(A B b c a nb:Nat):Prop:=
 A=c*Xt (a*A) (nb*B)+nb*Xt (b*A) (c*B)/\B=b*Xt (a*A) (nb*B)+a*Xt (b*A) (c*B)/\
 Xt (a*A) (nb*B)<Xt (b*A) (c*B)/\1<=nb
def Mv{x:Nat}(a:0<=z)(h:z=(x:Int)-y\/z=(y:Int)-x):(Xt x y:Int)=z:=by
 unfold Xt;omega
theorem Em.out{S al be l nb:Nat}(hs:Em o v s h l w nb C F)(G:A=o*S+al)(H:B=v*S+be)(n:al<S)(p:be<S)
(hl:F<=l)(I:nb+F<=h-l):FK A B w nb C F:=by
 obtain⟨m,x,y,c,z,D,E,L⟩:=hs;have j:(o:Int)=nb*l+F*h:=by rw[x];push_cast;rfl
 have k:(v:Int)=w*l+C*h:=by rw[y];push_cast;rfl
 have g:(A:Int)=o*S+al:=by rw[G];push_cast;rfl
 have i:(B:Int)=v*S+be:=by rw[H];push_cast;rfl
 have b:s*s=1:=DY
 obtain⟨X,d⟩:∃X:Int,X=s*(w*A-nb*B):=⟨_,J⟩;obtain⟨a,e⟩:∃a:Int,a=-s*(C*A-F*B):=⟨_,J⟩;have x1:X=(h:Int)*S+s*(w*al-nb*be):=by
  have:X=(s*(w*F-nb*C))*h*S+s*(w*al-nb*be):=by rw[d,g,i,j,k];grind
  rw[this,c,b];grind
 have q:a=(l:Int)*S-s*(C*al-F*be):=by
  have:a=(s*(w*F-nb*C))*l*S-s*(C*al-F*be):=by rw[e,g,i,j,k];grind
  rw[this,c,b];grind
 have c1:(C:Int)*al<=F*al:=by exact_mod_cast Ae al z
 have c2:(F:Int)*al<F*S:=by exact_mod_cast CI n O
 have c3:(F:Int)*be<F*S:=by exact_mod_cast CI p O
 have c4:(F:Int)*S<=l*S:=by exact_mod_cast Ae S hl
 have d1:((w+C:Nat):Int)*al<=(nb+F:Nat)*al:=by exact_mod_cast Ae al D
 have r:((nb+F:Nat):Int)*al<(nb+F:Nat)*S:=by exact_mod_cast CI n O
 have t:((nb+F:Nat):Int)*be<(nb+F:Nat)*S:=by exact_mod_cast CI p O
 have f:((nb+F:Nat):Int)*S<=(h-l:Nat)*S:=by exact_mod_cast Ae S I
 have u:((h-l:Nat):Int)=h-l:=O
 rw[u]at f;simp only[Int.natCast_add,Int.add_mul,Int.sub_mul]at d1 r t f;have p1:(0:Int)<=F*be:=by exact_mod_cast AJ _
 have P:(0:Int)<=C*al:=by exact_mod_cast AJ _
 have Q:(0:Int)<=w*al:=by exact_mod_cast AJ _
 have R:(0:Int)<=nb*be:=by exact_mod_cast AJ _
 have N:0<a:=by
  rw[q];rcases m with rfl|rfl<;>omega
 have M:a<X:=by
  rw[x1,q];rcases m with rfl|rfl<;>omega
 have ex:(Xt (w*A) (nb*B):Int)=X:=Mv O DY;have K:(Xt (C*A) (F*B):Int)=a:=Mv O DY;refine⟨?_,?_,O,E⟩
 . have:(A:Int)=nb*a+F*X:=by
    have:(nb:Int)*a+F*X=(s*(w*F-nb*C))*A:=by rw[d,e];grind
    rw[this,c,b];omega
   grind
 . have:(B:Int)=w*a+C*X:=by
    have:(w:Int)*a+C*X=(s*(w*F-nb*C))*B:=by rw[d,e];grind
    rw[this,c,b];omega
   grind
theorem FK.gcd{A B b c a nb:Nat}(h:FK A B b c a nb):Nat.gcd (Xt (b*A) (c*B)) (Xt (a*A) (nb*B))=Nat.gcd A B:=by
 obtain⟨d,e,_,_⟩:=h;apply Nat.dvd_antisymm
 . grind[Nat.gcd_dvd_left,Nat.gcd_dvd_right,Nat.dvd_gcd,Nat.dvd_add]
 grind[Nat.gcd_dvd_left,Nat.gcd_dvd_right,Xt,Nat.dvd_add,Nat.dvd_sub,Nat.dvd_gcd]
def FK.less{nb:Nat}(h:FK A B o v w nb)(hp:v≠0)(g:0<B):Xt (o*A) (v*B)+Xt (w*A) (nb*B)<A+B:=by
 obtain⟨c,d,e,f⟩:=h;have a:Xt (w*A) (nb*B)<=v*Xt (w*A) (nb*B):=Ch _ O;have b:Xt (o*A) (v*B)<=nb*Xt (o*A) (v*B):=Ch _ O;omega
