import Derived.Test.YtcahejkcdcjjgaaGreatDoorT01
set_option linter.all false
set_option maxRecDepth 99999
set_option maxHeartbeats 0
namespace Go.Proofs.YtcahejkcdcjjgaaGreatDoor
def C8:=@Nat.mul_pos
def Bi:=@decide_eq_false_iff_not
def BX:=@decide_eq_true_eq
def val(B:Nat):Ja->Nat
 |[]=>0
 |d::ds=>d+B*val B ds
def DA(B:Nat)(ds:Ja):Prop:=∀d∈ds,d<B
def EI(B:Nat):Nat->Nat->Ja
 |0,_=>[]
 |k+1,n=>if n=0\/B<2 then []else n%B::EI B k (n/B)
def Jb(B n:Nat):Ja:=EI B n n
theorem KQ(B:Nat):∀(k n m:Nat),n<=k->n<=m->EI B k n=EI B m n
 |0,n,m,h,_=>by
  have:n=0:=Y
  subst this;cases m with
  |zero=>rfl
  |succ m=>rw[EI,EI,BL (Ao J)]
 |k+1,n,0,_,h=>by
  grind[EI]
 |k+1,n,m+1,a,b=>by
  rw[EI,EI];by_cases h:n=0\/B<2
  . rw[BL h,BL h]
  . have c:n/B<n:=C0 Y Y;rw[BH h,BH h,KQ B k (n/B) m Y Y]
def Jq:Ja->Ja
 |[]=>[]
 |d::ds=>match Jq ds with
  |[]=>if d=0 then []else [d]
  |e::es=>d::e::es
variable{s z:Int}{D a b ds:Ja}{l:List UInt8}{A B C E F R V d d0 d1 g h i j k lo lo2 m n o p q r u u1 v w y:Nat}{c:UInt8}{f:UInt8->Bool}
theorem DA.nil(B:Nat):DA B []:=λ_ h=>by cases h
theorem DA.cons(h:d<B)(k:DA B ds):DA B (d::ds):=λx a=>by
 rcases List.mem_cons.1 a with rfl|a
 . exact h
 . exact k x a
def DA.head(h:DA B (d::ds)):d<B:=h d (Cr ..)
def DA.tail(h:DA B (d::ds)):DA B ds:=λx a=>h x (List.mem_cons_of_mem _ a)
def DA.append(h:DA B a)(k:DA B b):DA B (a++b):=λx c=>by
 rcases Cp.1 c with c|c
 . exact h x c
 . exact k x c
def DA.left(h:DA B (a++b)):DA B a:=λx c=>h x (Cp.2 (Ao c))
def DA.right(h:DA B (a++b)):DA B b:=λx c=>h x (Cp.2 (Aw c))
theorem FW(B:Nat):val B []=0:=rfl
theorem JQ(B d:Nat)(ds:Ja):val B (d::ds)=d+B*val B ds:=rfl
theorem val_append(B:Nat):∀(a b:Ja),val B (a++b)=val B a+B^a.length*val B b
 |[],b=>by simp[val]
 |d::a,b=>by
  simp only[An,JQ,val_append B a b,Ai,Ca];grind
theorem JW{B:Nat}:∀ {ds:Ja},DA B ds->val B ds<B^ds.length
 |[],_=>by simp[val]
 |d::ds,h=>by
  have b:=h.head;have a:=JW h.tail;simp only[JQ,Ai,Ca];have c:B*val B ds+B<=B*B^ds.length:=by
   rw[<-Nat.mul_succ];exact Aq _ a
  grind
theorem Js(B:Nat):Jb B 0=[]:=rfl
theorem YK(b:2<=B)(c:n≠0):Jb B n=n%B::Jb B (n/B):=by
 unfold Jb;obtain⟨m,rfl⟩:∃m,n=m+1:=⟨n-1,Y⟩;have a:(m+1)/B<m+1:=C0 Y Y;grind[EI,KQ]
theorem Jj(b:2<=B)(n:Nat):val B (Jb B n)=n:=by
 induction n using Nat.strongRecOn with
 |ind n c=>
  by_cases a:n=0
  . subst a;rw[Js];rfl
  grind[YK,JQ,C0,Nat.mod_add_div]
theorem Ji(a:2<=B)(n:Nat):DA B (Jb B n):=by
 induction n using Nat.strongRecOn with
 |ind n b=>
  grind[Js,DA.nil,YK,DA.cons,AJ,C0]
theorem Jw(a:2<=B):Jb B n=[]↔n=0:=by
 constructor
 . intro h;have:=Jj a n;rw[h]at this;exact this.symm
 . intro h;rw[h,Js]
theorem YF(h:Jq ds=[]):Jq (d::ds)=if d=0 then []else [d]:=by
 simp only[Jq,h]
theorem Xb(h:Jq ds≠[]):Jq (d::ds)=d::Jq ds:=by
 grind[Jq]
theorem F2(B:Nat):∀(ds:Ja),val B (Jq ds)=val B ds
 |[]=>rfl
 |d::ds=>by
  by_cases h:Jq ds=[]
  . have:=F2 B ds;grind[YF,val]
  . rw[Xb h,JQ,JQ,F2 B ds]
theorem JN{B:Nat}(e:2<=B):∀ {ds:Ja},DA B ds->Jb B (val B ds)=Jq ds
 |[],_=>by rw[FW,Js];rfl
 |d::ds,h=>by
  have c:=h.head;have k:=JN e h.tail;rw[JQ];by_cases j:d+B*val B ds=0
  . have l:d=0:=Y
    have i:val B ds=0:=by
     rcases AE (val B ds)with b|b
     . exact b
     . have:0<B*val B ds:=C8 Y b
       omega
    grind[Js,YF]
  . rw[YK e j];have f:(d+B*val B ds)%B=d:=by rw[Ck];exact Cc c
    have g:(d+B*val B ds)/B=val B ds:=by
     rw[Cx _ _ Y,AQ c,Cq]
    rw[f,g,k];by_cases a:Jq ds=[]
    . rw[YF a,a];have i:val B ds=0:=by rw[<-F2 B ds,a];rfl
      grind
    . rw[Xb a]
def Dl(ds:Ja):Prop:=Jq ds=ds
def JX(a:2<=B)(n:Nat):Dl (Jb B n):=by
 have h:=JN a (Ji a n);rw[Jj a]at h;exact h.symm
theorem YB(a:2<=B)(h:DA B ds)(b:Dl ds):Jb B (val B ds)=ds:=(JN a h).trans b
theorem YC:∀(ds:Ja) {d:Nat},d≠0->Jq (ds++[d])=ds++[d]
 |[],d,h=>by simp[Jq,h]
 |e::ds,d,h=>by
  have a:=YC ds h;rw[An,Xb (by rw[a];simp),a]
theorem Ya:∀(ds:Ja),Jq (ds++[0])=Jq ds
 |[]=>by simp[Jq]
 |e::ds=>by
  have a:=Ya ds;grind[Jq]
theorem KR(ds:Ja)(k:Nat)(n:k<=ds.length)(d:∀j,k<=j->j<ds.length->ds[j]?=some 0):Jq (ds.take k)=Jq ds:=by
 obtain⟨m,a⟩:∃m,ds.length=k+m:=⟨ds.length-k,Y⟩;induction m generalizing ds with
 |zero=>grind
 |succ m c=>
  have o:ds≠[]:=by intro e;rw[e]at a;simp at a
  have hl:ds=ds.take (k+m)++[0]:=by
   apply List.ext_getElem?;intro i;by_cases l:i<k+m
   . grind
   . grind
  have b:(ds.take (k+m)).length=k+m:=by rw[Ae];omega
  have:=c (ds.take (k+m)) Y (by
   intro j f g;grind) b
  grind[Ya]
theorem NR(ds:Ja)(k:Nat)(b:k<ds.length)(c:ds[k]?≠some 0)(a:∀j,k<j->j<ds.length->ds[j]?=some 0):Jq ds=ds.take (k+1):=by
 grind[KR,AL,YC]
def NS(ds:Ja)(a:∀j,j<ds.length->ds[j]?=some 0):Jq ds=[]:=by
 have:=KR ds 0 Y λj _ h=>a j h;rw[<-this];simp[Jq]
def KS{B:Nat}:∀ {ds:Ja},DA B ds->DA B (Jq ds)
 |[],h=>h
 |d::ds,h=>by
  by_cases a:Jq ds=[]
  . rw[YF a];split
    . exact DA.nil B
    . exact DA.cons h.head (DA.nil B)
  . rw[Xb a];exact DA.cons h.head (KS h.tail)
theorem YQ:∀(ds:Ja),(Jq ds).length<=ds.length
 |[]=>by simp[Jq]
 |d::ds=>by
  have:=YQ ds;grind[Jq]
theorem Jz(a:2<=B)(h:n<B^k):(Jb B n).length<=k:=by
 induction k generalizing n with
 |zero=>
  grind[Js]
 |succ k b=>
  grind[YK,Nat.div_lt_of_lt_mul]
def KT(b:2<=B)(h:(Jb B n).length=k+1):B^k<=n:=by
 rcases AH n (B^k)with a|a
 . have:=Jz b a;omega
 . exact a
def Yb(a:2<=B)(h:(Jb B m).length<(Jb B n).length):m<n:=by
 have b:m<B^(Jb B m).length:=by
  have:=JW (Ji a m);rwa[Jj a]at this
 have c:B^((Jb B n).length-1)<=n:=KT a Y;have d:B^(Jb B m).length<=B^((Jb B n).length-1):=Am Y Y;omega
def Yn(m n:Nat):Int:=if m<n then -1 else if n<m then 1 else 0
theorem Gs(m:Nat):Yn m m=0:=by simp[Yn]
theorem Xc(h:m<n):Yn m n=-1:=by simp[Yn,h]
theorem FI(h:n<m):Yn m n=1:=by
 grind[Yn]
theorem KU(ds:Ja)(k:Nat)(a:k<ds.length):val B ds=val B (ds.take k)+B^k*(ds[k]?.getD 0+B*val B (ds.drop (k+1))):=by
 grind[AP,AD,val_append,JQ]
def DA.take{B:Nat}{ds:Ja}(h:DA B ds)(k:Nat):DA B (ds.take k):=λx a=>h x (CV a)
def DA.drop{B:Nat}{ds:Ja}(h:DA B ds)(k:Nat):DA B (ds.drop k):=λx a=>h x (List.mem_of_mem_drop a)
def DA.get(h:DA B ds)(a:k<ds.length):ds[k]?.getD 0<B:=by
 rw[Ak a];exact h _ (List.getElem_mem a)
theorem DA.getD{B:Nat}{ds:Ja}(h:DA B ds)(b:0<B)(k:Nat):ds[k]?.getD 0<B:=by
 rcases AH k ds.length with a|a
 . exact h.get a
 grind
theorem Gt(e:DA B a)(hl:a.length=b.length)(k:Nat)(g:k<a.length)(f:a.drop (k+1)=b.drop (k+1))(h:a[k]?.getD 0<b[k]?.getD 0):val B a<val B b:=by
 rw[KU a k g,KU b k Y,<-f];have c:=JW (e.take k);have d:(a.take k).length=k:=by rw[Ae];omega
 rw[d]at c;have i:B^k*(a[k]?.getD 0+B*val B (a.drop (k+1)))+B^k<=B^k*(b[k]?.getD 0+B*val B (a.drop (k+1))):=by
  rw[<-Nat.mul_succ];exact Aq _ Y
 omega
theorem KV(hl:a.length=b.length)(k:Nat)(d:k<a.length)(c:a.drop (k+1)=b.drop (k+1))(h:a[k]?.getD 0=b[k]?.getD 0):a.drop k=b.drop k:=by
 grind[AD]
theorem J5(c:2<=B)(d:DA B a)(e:DA B b)(f:Dl a)(g:Dl b)(h:a.length<b.length):val B a<val B b:=by
 apply Yb c;grind[YB]
theorem Jm(B:Nat)(ds:Ja)(k:Nat):val B (ds.take (k+1))=val B (ds.take k)+B^k*ds[k]?.getD 0:=by
 grind[AL,val_append,val,Ac]
theorem J1(B:Nat)(ds:Ja)(d:Nat):val B (ds++[d])=val B ds+B^ds.length*d:=by
 rw[val_append];simp[val]
theorem Gu(c:2<=B)(h:DA B ds)(hp:ds=[]\/B^(ds.length-1)<=val B ds):Dl ds:=by
 rcases hp with rfl|hp
 . rfl
 . have a:=YQ ds;rcases AH (Jq ds).length ds.length with g|e
   . have b:=JW (KS h);rw[F2]at b;have f:B^(Jq ds).length<=B^(ds.length-1):=Am Y Y;omega
   . have hl:(Jq ds).length=ds.length:=Y
     clear a e hp h c;unfold Dl;induction ds with
     |nil=>rfl
     |cons d ds i=>
      grind[Jq]
theorem NT(a:Ja)(c s A:Nat)(h:val B a+B^a.length*c=A):val B (a++[(c+s)%B])+B^(a.length+1)*((c+s)/B)=A+B^a.length*s:=by
 grind[J1,Nat.mod_add_div]
def Ys(a:2<=B)(h:(Jb B n).length=k)(b:k≠0):B^(k-1)<=n:=KT a Y
theorem NU(b:2<=B){a:Ja}(d:DA B a)(e:val B a=m+n)
(hl:a.length<=max (Jb B m).length (Jb B n).length\/B^(a.length-1)<=val B a)(hle:max (Jb B m).length (Jb B n).length<=a.length):a=Jb B (m+n):=by
 rw[<-e];refine(YB b d (Gu b d ?_)).symm;by_cases c:a.length=0
 . grind
 . right
   rcases hl with hl|hl
   . have f:a.length=max (Jb B m).length (Jb B n).length:=Y
     rcases Nat.le_total (Jb B m).length (Jb B n).length with h|h
     . have:=Ys b (n:=n) (k:=a.length) Y c;omega
     . have:=Ys b (n:=m) (k:=a.length) Y c;omega
   . exact hl
def Dm(d:Nat):UInt8:=UInt8.ofNat (48+d)
def De(ds:Ja):List UInt8:=(ds.map Dm).reverse
def Yz(n:Nat):List UInt8:=if n=0 then [48]else De (Jb 10 n)
def Yr(z:Int):List UInt8:=if z<0 then 45::Yz z.natAbs else Yz z.natAbs
def Gv(ds:Ja)(d:Nat):De (ds++[d])=Dm d::De ds:=by simp[De]
theorem KW(ds:Ja):(De ds).length=ds.length:=by simp[De]
def YR(ds:Ja)(i k n:Nat)(D:Ja):Prop:=
 D.length=4*i+k/\DA 10 D/\k<=4/\n=ds[i]?.getD 0/10^k/\val 10 D+10^(4*i+k)*n=val 10000 (ds.take i)+10000^i*ds[i]?.getD 0/\(i+1<ds.length\/k=0\/10^(k-1)<=ds[i]?.getD 0)
def Gw(i:Nat):(10:Nat)^(4*i)=10000^i:=by rw[Nat.pow_mul]
def YR.start(hl:D.length=4*i)(a:DA 10 D)(b:val 10 D=val 10000 (ds.take i)):YR ds i 0 (ds[i]?.getD 0) D:=by
 refine⟨Y,a,Y,C9,?_,Aw (Ao J)⟩;rw[AU,Gw,b]
theorem YR.step(h:YR ds i k n D)(j:k<4)(g:0<n\/i+1<ds.length):YR ds i (k+1) (n/10) (D++[n%10]):=by
 obtain⟨c,a,d,b,e,f⟩:=h;refine⟨by simp;omega,a.append (DA.cons (AJ _ Y) (DA.nil _)),Y,?_,?_,?_⟩
 . rw[b,Nat.div_div_eq_div_mul,<-Ca]
 . grind[J1,Nat.mod_add_div]
 grind[Nat.div_pos_iff]
theorem YR.next(h:YR ds i 4 n D)(c:DA 10000 ds):D.length=4*(i+1)/\DA 10 D/\val 10 D=val 10000 (ds.take (i+1)):=by
 obtain⟨e,f,g,a,j,k⟩:=h;have b:=c.getD Y i;have d:n=0:=by rw[a];exact AQ (by simpa using b)
 grind[Jm]
def YR.last(h:YR ds i k 0 D)(r:i+1=ds.length):D.length<=4*ds.length/\DA 10 D/\val 10 D=val 10000 ds/\(val 10000 ds≠0->Dl ds->D=Jb 10 (val 10000 ds)):=by
 obtain⟨g,b,q,j,l,a⟩:=h;have e:val 10 D=val 10000 ds:=by
  have:=Jm 10000 ds i;rw[Ac Y]at this;rw[this,<-l];simp
 refine⟨Y,b,e,λt p=>?_⟩;rw[<-e];refine(YB Y b (Gu Y b ?_)).symm;have u:ds[i]?.getD 0≠0:=by
  intro c;have m:ds=ds.take i++[0]:=by
   conv=>lhs;rw[<-AP i ds,AD (by omega:i<ds.length)]
   rw[Au Y];rw[Ak Y]at c;have f:ds[i]=0:=c;rw[f]
  have n:(Jq ds).length<=i:=by
   rw[m,Ya];have:=YQ (ds.take i);rw[Ae]at this;omega
  rw[p]at n;omega
 right
 rw[g,e];have s:k≠0:=by
  intro o;subst o;simp at j;omega
 rcases a with a|a|a
 . omega
 . omega
 . have:=Jm 10000 ds i;rw[Ac Y]at this;rw[this];have d:(10:Nat)^(4*i+k-1)=10000^i*10^(k-1):=by
    rw[<-Gw,<-Cy];congr 1;omega
   rw[d];have:=Aq (10000^i) a;omega
theorem F3(h:n≠0):Yz n=De (Jb 10 n):=by simp[Yz,h]
def DI(c:UInt8):Bool:=decide (48<=c.toNat)&&decide (c.toNat<=57)
def DV(l:List UInt8):Ja:=(l.map λc=>c.toNat-48).reverse
def num(l:List UInt8):Nat:=val 10 (DV l)
def JE(l:List UInt8):List UInt8:=if l.head?=some 45 then l.tail else l
def good(l:List UInt8):Bool:=decide (l.length<=2000) && !(JE l).isEmpty&&(!decide ((JE l).head?=some 48) || decide (l=[48]))&&(JE l).all DI
def Yo(l:List UInt8):Int:=if l.head?=some 45 then -(num (JE l):Int)else num (JE l)
theorem Yd(h:DI c=true):48<=c.toNat/\c.toNat<=57:=by simpa[DI]using h
theorem Y5(h:d<10):(Dm d).toNat=48+d:=by
 unfold Dm;rw[UInt8.toNat_ofNat'];omega
theorem NW(h:DI c=true):Dm (c.toNat-48)=c:=by
 grind[Yd,CS,Y5]
def NX(l:List UInt8)(c:UInt8):DV (l++[c])=(c.toNat-48)::DV l:=by simp[DV]
theorem Gx(l:List UInt8)(c:UInt8):num (l++[c])=(c.toNat-48)+10*num l:=by rw[num,NX,JQ];rfl
def NY(a b:List UInt8):DV (a++b)=DV b++DV a:=by simp[DV]
theorem Xt(l:List UInt8):(DV l).length=l.length:=by simp[DV]
theorem Y6(a b:List UInt8):num (a++b)=num b+10^b.length*num a:=by rw[num,NY,val_append,Xt];rfl
theorem F4(h:l.all DI=true):DA 10 (DV l):=by
 intro d a;grind[DV,Yd]
theorem NZ(h:l.all DI=true):De (DV l)=l:=by
 simp only[De,DV,List.map_reverse,List.reverse_reverse,List.map_map];conv=>rhs;rw[<-List.map_id l]
 grind[Cl,NW]
theorem Na(b:DI c=true)(a:c≠48):Dl (DV (c::l)):=by
 have e:DV (c::l)=DV l++[c.toNat-48]:=by simp[DV]
 rw[e];refine YC _ ?_;have:=Yd b;intro h;apply a;apply CS.1;grind
theorem Gy(h:(c::l).all DI=true)(a:c≠48):Yz (num (c::l))=c::l/\num (c::l)≠0:=by
 grind[YB,F4,Na,num,Js,Xt,F3,NZ]
theorem KX(h:good l=true):Yr (Yo l)=l:=by
 simp only[good,AF,BX,Bool.or_eq_true,Cm,Bi]at h;obtain⟨⟨⟨_,j⟩,f⟩,a⟩:=h;cases e:JE l with
 |nil=>grind
 |cons c t=>
  rw[e]at f a;by_cases b:c=48
  . grind[Yo,JE,Yr,Yz,num,DV,val]
  . obtain⟨g,i⟩:=Gy a b;by_cases d:l.head?=some 45
    . have hl:l=45::c::t:=by
       cases l with
       |nil=>simp at d
       |cons x k=>
        grind[JE]
      grind[Yo,Yr]
    grind[JE,Yo,Yr]
def Nb(h:DA 10 ds):(De ds).all DI=true:=by
 rw[Ay];intro c a;simp only[De,List.mem_reverse,List.mem_map]at a;obtain⟨d,b,rfl⟩:=a;have:=h d b;simp[DI,Y5 this];omega
def Nc(h:DA 10 ds):num (De ds)=val 10 ds:=by
 have e:DV (De ds)=ds:=by
  simp only[De,DV,List.map_reverse,List.reverse_reverse,List.map_map];conv=>rhs;rw[<-List.map_id ds]
  apply Cl;intro d a;have:=h d a;simp[Y5 this]
 rw[num,e]
theorem F5(j:n≠0):∃c t,Yz n=c::t/\c≠48/\c≠45/\(c::t).all DI=true/\num (c::t)=n:=by
 have a:=Ji (B:=10) Y n;have k:=JX (B:=10) Y n;have q:=Jj (B:=10) Y n;have m:Jb 10 n≠[]:=by rw[Ne,Jw Y];exact j
 have f:=Nb a;have b:=Nc a;have e:Yz n=De (Jb 10 n):=F3 j;rw[q]at b;obtain⟨ds,d,p⟩:∃ds d,Jb 10 n=ds++[d]:=⟨_,_,(List.dropLast_concat_getLast m).symm⟩;rw[p]at f b e k a;rw[Gv]at f b e;have r:d≠0:=by
  intro o;subst o;have g:(Jq (ds++[0])).length<=ds.length:=by rw[Ya];exact YQ ds
  rw[k]at g;simp at g;omega
 have l:d<10:=a d C9;have i:=Y5 l;refine⟨Dm d,De ds,e,?_,?_,f,b⟩
 . intro h;rw[h]at i;grind
 . intro h;rw[h]at i;grind
theorem Nd(h:(Yr z).length<=2000):good (Yr z)=true/\Yo (Yr z)=z:=by
 by_cases a:z.natAbs=0
 . have:z=0:=Y
   subst this;simp[Yr,Yz,good,Yo,JE,num,DV,val,DI]
 . obtain⟨c,t,e,d,b,f,g⟩:=F5 a;grind[Yr,good,JE,Yo]
theorem Nf(a:10<=B):(Jb B n).length<=(Jb 10 n).length:=by
 refine Jz Y ?_;have h:=JW (Ji (B:=10) Y n);grind[Jj,Al,CJ]
theorem Ng(h:good l=true)(a:10<=B):(Jb B (Yo l).natAbs).length<=2000:=by
 grind[KX,good,Nf,Js,F3,KW,Yr]
def Yy(f:UInt8->Bool)(l:List UInt8)(i:Nat):Nat:=i+((l.drop i).takeWhile f).length
def DB(l:List UInt8)(i:Nat):Nat:=Yy (·==32) l i
def Df(l:List UInt8)(i:Nat):Nat:=Yy DI l i
theorem Nh(d:n<=l.length)(a:∀k (h:k<n),f l[k]=true)(e:∀h:n<l.length,f l[n]=false):(l.takeWhile f).length=n:=by
 induction l generalizing n with
 |nil=>simp at d ⊢;omega
 |cons c t g=>
  cases n with
  |zero=>
   grind[List.takeWhile_cons_of_neg]
  |succ n=>
   have:=a 0 Y;simp at this;rw[List.takeWhile_cons_of_pos this,Ai,g (n:=n) (by simpa using d) (λk b=>a (k+1) Y) λb=>e (by simpa using b)]
theorem F6(d:i<=j)(e:j<=l.length)(b:∀k (h:k<l.length),i<=k->k<j->f l[k]=true)(c:∀h:j<l.length,f l[j]=false):Yy f l i=j:=by
 unfold Yy;rw[Nh (n:=j-i) DN]
 . omega
 . intro k a;grind
 . intro a;grind
theorem Xu(f:UInt8->Bool)(l:List UInt8):(l.takeWhile f).length<=l.length/\(∀k (h:k<l.length),k<(l.takeWhile f).length->f l[k]=true)/\∀h:(l.takeWhile f).length<l.length,f (l[(l.takeWhile f).length]'h)=false:=by
 induction l with
 |nil=>simp
 |cons c t b=>
  by_cases a:f c=true
  . grind[List.takeWhile_cons_of_pos]
  grind[List.takeWhile_cons_of_neg]
def Gz(f:UInt8->Bool)(l:List UInt8)(i:Nat):i<=Yy f l i:=Nat.le_add_right _ _
theorem Ha(a:i<=l.length):Yy f l i<=l.length:=by
 grind[Xu,Yy]
theorem Ni(b:i<=k)(a:k<Yy f l i)(h:k<l.length):f l[k]=true:=by
 have:=(Xu f (l.drop i)).2.1 (k-i) DN (by unfold Yy at a;omega);grind
theorem Hb(h:Yy f l i<l.length):f (l[Yy f l i]'h)=false:=by
 grind[Yy,Xu]
def Nj(f:UInt8->Bool)(l:List UInt8)(i:Nat):Yy f l (Yy f l i)=Yy f l i:=by
 rcases AH (Yy f l i) l.length with h|h
 . exact F6 (Aa _) Y (λk _ b c=>by omega) λa=>Hb a
 . unfold Yy;rw[show i+((l.drop i).takeWhile f).length=Yy f l i from J,Au h];rfl
def JR(l:List UInt8)(j:Nat)(c:UInt8):Bool:=l[j]?==some c
abbrev Rd(α:Type):=EStateM.Result Nat Nat α
def JI(l:List UInt8)(i:Nat):Rd (List UInt8 × Nat):=
 if Df l (DB l i)=DB l i then .error 2 (DB l i)
 else if 12<Df l (DB l i)-DB l i then .error 3 (DB l i)
 else .ok (((l.drop (DB l i)).take (Df l (DB l i)-DB l i)),DB l i) (Df l (DB l i))
def J2(l:List UInt8)(i:Nat):Rd Rat:=
 match JI l i with
 |.error e p=>.error e p
 |.ok (ds,_) k=>
  if JR l (DB l k) 47 then
   match JI l (DB l k+1)with
   |.error e p=>.error e p
   |.ok (a,p) m=>if num a=0 then .error 4 p else .ok (Rat.divInt (num ds) (num a)) m
  else .ok ((num ds:Int):Rat) (DB l k)
def XX(l:List UInt8)(i:Nat):Rd Nat:=
 if JR l (DB l i) 94 then
  match JI l (DB l i+1)with
  |.error e p=>.error e p
  |.ok (ds,p) k=>if 8<num ds then .error 3 p else .ok (num ds) k
 else .ok 1 (DB l i)
def D5(l:List UInt8)(j:Nat):Bool:=(l[j]?.map DI).getD false
def JV(l:List UInt8)(i:Nat):Rd (Rat × Nat):=
 if D5 l (DB l i)then
  match J2 l (DB l i)with
  |.error e p=>.error e p
  |.ok c k=>
   if JR l (DB l k) 120 then
    match XX l (DB l k+1)with
    |.error e p=>.error e p
    |.ok n m=>.ok (c,n) m
   else .ok (c,0) (DB l k)
 else if JR l (DB l i) 120 then
  match XX l (DB l i+1)with
  |.error e p=>.error e p
  |.ok n m=>.ok (1,n) m
 else .error 2 (DB l i)
def Dj(l:List UInt8):Nat->Bool->Nat->X->Rd X
 |0,_,i,_=>.error 0 i
 |f+1,b,i,s=>
  match JV l i with
  |.error e p=>.error e p
  |.ok (c,n) k=>
   let a:=s.set n (if b then cf s n-c else cf s n+c)
   if JR l (DB l k) 43 then Dj l f false (DB l k+1) a
   else if JR l (DB l k) 45 then Dj l f true (DB l k+1) a
   else if DB l k=l.length then .ok a (DB l k)
   else .error 2 (DB l k)
def JU(l:List UInt8):X × Nat × Nat:=
 if 300<l.length then([],1,0)
 else
  match (if JR l (DB l 0) 45 then Dj l (l.length+1) true (DB l 0+1) (List.replicate 9 0)else Dj l (l.length+1) false (DB l 0) (List.replicate 9 0))with
  |.error e p=>([],e,p)
  |.ok s _=>(Jv s,0,0)
def Er{ds:List UInt8}(e:i<=l.length)(h:JI l i=.ok (ds,p) k):p=DB l i/\k=Df l p/\i<=p/\p<k/\k<=l.length/\k-p<=12/\ds=(l.drop p).take (k-p)/\ds.length=k-p/\ds.all DI=true:=by
 unfold JI at h;split at h
 . cases h
 . split at h
   . cases h
   . rename_i j m;simp only[EStateM.Result.ok.injEq,Prod.mk.injEq]at h;obtain⟨⟨rfl,rfl⟩,rfl⟩:=h;have hs:DB l i<=l.length:=Ha e;have o:DB l i<=Df l (DB l i):=Gz _ _ _;have b:Df l (DB l i)<=l.length:=Ha hs;have a:((l.drop (DB l i)).take (Df l (DB l i)-DB l i)).length=Df l (DB l i)-DB l i:=by rw[Ae,A6];omega
     refine⟨J,J,Gz _ _ _,Y,b,Y,J,a,?_⟩;rw[Ay];intro c d;obtain⟨n,g,rfl⟩:=List.mem_iff_getElem.1 d;rw[a]at g;rw[List.getElem_take,List.getElem_drop];exact Ni (f:=DI) (i:=DB l i) Y (by show _<Df l (DB l i);omega) Y
def Hc{ds:List UInt8}(a:i<=l.length)(h:JI l i=.ok (ds,p) k):i<k/\k<=l.length:=by
 have:=Er a h;omega
theorem JZ(h:JR l j c=true):j<l.length:=by
 grind[JR]
theorem J9(a:i<=l.length):DB l i<=l.length:=Ha a
def Es(l:List UInt8)(i:Nat):i<=DB l i:=Gz _ _ _
theorem KY{c:Rat}(f:i<=l.length)(h:J2 l i=.ok c k):i<k/\k<=l.length:=by
 unfold J2 at h;split at h
 . cases h
 . rename_i ds p g b;have d:=Hc f b;have n:=Es l g;have o:=J9 d.2;split at h
   . rename_i a;have a:=JZ a;split at h
     . cases h
     . rename_i j r m e;have q:=Hc Y e;grind
   . cases h;omega
theorem KZ(c:i<=l.length)(h:XX l i=.ok n k):i<=k/\k<=l.length/\n<=8:=by
 unfold XX at h;have e:=Es l i;have f:=J9 c;split at h
 . rename_i a;have a:=JZ a;split at h
   . cases h
   . rename_i d j m b;have g:=Hc Y b;grind
 . cases h;omega
def Hd{c:Rat}(j:i<=l.length)(h:JV l i=.ok (c,n) k):i<k/\k<=l.length/\n<=8:=by
 unfold JV at h;have q:=Es l i;have f:=J9 j;split at h
 . split at h
   . cases h
   . rename_i c' o d;have e:=KY f d;have r:=Es l o;have s:=J9 e.2;split at h
     . rename_i a;have a:=JZ a;split at h
       . cases h
       . rename_i p m b;have g:=KZ Y b;cases h;omega
     . cases h;omega
 . split at h
   . rename_i a;have a:=JZ a;split at h
     . cases h
     . rename_i p m b;have g:=KZ Y b;cases h;omega
   . cases h
def FX(u u1 d1 d0 q r:Nat):Prop:=
 q*d1+r=u/\(u*4294967296+u1)/(d1*4294967296+d0)<=q/\q<=4294967297/\r<4294967296
theorem Ka(b:2147483648<=d1)(c:d1<4294967296)(a:d0<4294967296)(i:u1<4294967296)(g:u<d1*4294967296+d0):
 FX u u1 d1 d0 (u/d1) (u%d1):=by
 have e:=AN u d1;have f:u%d1<d1:=AJ _ Y;have d:d1*(u/d1)=u/d1*d1:=AC _ _;refine⟨Y,?_,?_,Y⟩
 . apply Ct;rw[Ap Y];grind
 . apply Ct;rw[Ap Y];omega
theorem Kb(h:FX u u1 d1 d0 q r)(d:0<d1)(c:q*d0<=4294967296*r+u1):q=(u*4294967296+u1)/(d1*4294967296+d0):=by
 obtain⟨a,b,_,_⟩:=h;grind[Nat.le_antisymm,CE]
theorem Kc(h:FX u u1 d1 d0 q r)(j:2147483648<=d1)(l:u1<4294967296)(k:u<d1*4294967296+d0)(a:4294967296<=q\/4294967296*r+u1<q*d0):
 1<=q/\(q-1)*d1+(r+d1)=u/\(u*4294967296+u1)/(d1*4294967296+d0)<=q-1/\q-1<=4294967296:=by
 obtain⟨c,d,f,g⟩:=h;have b:1<=q:=by
  rcases a with a|a
  . omega
  . grind
 have e:(q-1)*d1+d1=q*d1:=by
  conv=>rhs;rw[show q=q-1+1 from by omega,Cn,C2]
 refine⟨b,Y,?_,Y⟩;apply Ct;rw[Nat.succ_eq_add_one,Nat.sub_add_cancel b,Ap Y];rcases a with a|a
 . have i:4294967296*(d1*4294967296+d0)<=q*(d1*4294967296+d0):=Af _ a;omega
 grind
def XI(d:q*d1+r=u)(a:(u*4294967296+u1)/(d1*4294967296+d0)<=q)(b:q<=4294967296)(c:d0<4294967296)(f:0<d1)(g:4294967296<=r):q=(u*4294967296+u1)/(d1*4294967296+d0):=by
 apply Nat.le_antisymm _ a;rw[CE Y,CK,<-Cg];have e:q*d0<=4294967296*d0:=Af _ b;omega
def Kd{t un0:Nat}(a:0<d):t/d*k+(t%d*k+un0)/d=(t*k+un0)/d/\(t%d*k+un0)%d=(t*k+un0)%d:=by
 have b:=AN t d;have e:t*k+un0=d*(t/d*k)+(t%d*k+un0):=by
  conv=>lhs;rw[<-b,Cn,Cg]
  omega
 rw[e,Nat.mul_add_div a,Nat.mul_add_mod];exact⟨J,J⟩
def Nk{a s:Nat}:(a*2^s)/(y*2^s)=a/y/\(a*2^s)%(y*2^s)=a%y*2^s:=
 ⟨Nat.mul_div_mul_right _ _ (AR s),Nat.mul_mod_mul_right _ _ _⟩
def F7(B u u1 d1 d0 q r:Nat):Prop:=
 q*d1+r=u/\(u*B+u1)/(d1*B+d0)<=q/\q<B/\r<B
theorem Nl(a:0<d1)(f:d1<B)(j:u1<B)(c:u<d1*B):F7 B u u1 d1 d0 (u/d1) (u%d1):=by
 have g:=AN u d1;have i:u%d1<d1:=AJ _ a;have e:d1*(u/d1)=u/d1*d1:=AC _ _;have hp:0<d1*B:=C8 a Y;refine⟨Y,?_,?_,Y⟩
 . apply Ct;rw[Ap Y,Nat.succ_eq_add_one];have b:(u/d1+1)*(d1*B+d0)=(u/d1*d1+d1)*B+(u/d1+1)*d0:=DN
   rw[b];have d:(u+1)*B<=(u/d1*d1+d1)*B:=Af _ Y;grind
 . rw[Ap a,AC];exact c
def He(a:q*d1+r=u)(b:(u*B+u1)/(d1*B+d0)<=q)(d:0<d1*B)(c:q*d0<=r*B+u1):q=(u*B+u1)/(d1*B+d0):=by
 apply Nat.le_antisymm _ b;rw[CE Y,CK,<-Cg,<-a,Cn];omega
def Nm(h:F7 B u u1 d1 d0 q r)(j:0<d1*B)(d:r*B+u1<q*d0):
 1<=q/\(q-1)*d1+(r+d1)=u/\(u*B+u1)/(d1*B+d0)<=q-1/\q-1<B:=by
 obtain⟨c,f,g,i⟩:=h;have b:1<=q:=by
  rcases AE q with a|a
  . rw[a]at d;omega
  . exact a
 have e:(q-1)*d1+d1=q*d1:=by
  rw[<-Nat.succ_mul];congr 1;omega
 refine⟨b,Y,?_,Y⟩;apply Ct;rw[Nat.succ_eq_add_one,Nat.sub_add_cancel b,Ap Y,CK,<-Cg,<-c,Cn];omega
def Nn(a:q*d1+r=u)(b:(u*B+u1)/(d1*B+d0)<=q)(f:q<B)(e:d0<B)(c:0<d1*B)(d:B<=r):q=(u*B+u1)/(d1*B+d0):=by
 apply He a b c;have g:q*d0<=B*d0:=Af _ Y;have i:B*d0<=B*B:=Aq _ Y;have j:B*B<=r*B:=Af _ d;omega
def EJ(R V g:Nat):Prop:=R<(g+1)*V/\g*V<=R+V
theorem Np{T:Nat}(l:R=T*E+lo)(a:V=o*E+lo2)(j:lo<E)(k:lo2<E)(p:T/o<=o)(d:0<o):EJ R V (T/o):=by
 have m:=AN T o;have n:=AJ T d;generalize T/o=g at *;generalize T%o=t at *;have b:(T+1)*E<=(o*g+o)*E:=Af _ Y;have e:(g+1)*V=(o*g+o)*E+(g+1)*lo2:=by rw[a];grind
 have f:g*lo2<=g*E:=Aq _ Y;have c:(o*g+g)*E<=(T+o)*E:=Af _ Y;have i:g*V=o*g*E+g*lo2:=by rw[a];grind
 rw[Cn]at b c;refine⟨?_,?_⟩
 . omega
 grind
theorem Nq(a:R=d1*(B*E)+lo)(b:V=d1*E+lo2)(f:lo2<E)(j:B<=2*d1)(i:R<V*B)(g:2<=B):EJ R V (B-1):=by
 refine⟨DN,?_⟩;obtain⟨c,rfl⟩:∃c,B=c+2:=⟨B-2,Y⟩;rw[show c+2-1=c+1 from by omega,Cn,C2];apply Nat.add_le_add_right;rw[a,b,CK];have d:c*lo2<=c*E:=Aq _ Y;have e:c*E<=2*d1*E:=Af _ Y;grind
theorem Nr(h:EJ R V g)(b:q+V*g=R):g=R/V/\q=R%V:=by
 have hg:g*V=V*g:=AC _ _;have a:=h.1;rw[Cn,C2]at a;have c:q<V:=Y
 grind[Cx,AQ,Ck,Cc]
theorem Ns{P q2 c2:Nat}(h:EJ R V g)(c:q+V*g=R+P)(m:q<P)(k:q2+P*c2=q+V)(l:q2<P)(i:c2<=1):1<=g/\g-1=R/V/\q2=R%V:=by
 have d:=h.2;have hg:g*V=V*g:=AC _ _;have j:1<=g:=by
  rcases AE g with a|a
  . rw[a]at c;omega
  . exact a
 have e:V*(g-1)+V=V*g:=by rw[<-Nat.mul_succ];congr 1;omega
 have b:c2=1:=by
  rcases(by omega:c2=0\/c2=1)with a|a
  . subst a;omega
  . exact a
 subst b;have f:q2+V*(g-1)=R:=Y
 have n:q2<V:=Y
 grind[Cx,AQ,Ck,Cc]
def Y2(x y:Nat):Nat:=(x-y)+(y-x)
def D6(d e:Nat)(s:Int)(h l c nb b a:Nat):Prop:=
 (s=1\/s=-1)/\d=nb*l+a*h/\e=c*l+b*h/\(c:Int)*a-nb*b=s/\b<=a/\c+b<=nb+a/\1<=a/\l<=h
def D6.start(h:v<=o):D6 o v 1 o v 1 0 0 1:=
 ⟨Ao J,Y,Y,Y,Y,Y,Y,h⟩
theorem D6.step{l nb:Nat}(hs:D6 o v s h l w nb C F)(hl:1<=l):
 D6 o v (-s) l (h%l) C F (w+h/l*C) (nb+h/l*F):=by
 obtain⟨n,c,d,p,a,t,u,x⟩:=hs;have e:=AN h l;have b:1<=h/l:=(CE Y).2 Y;have y:h%l<l:=AJ _ Y;generalize h/l=q at *;generalize h%l=r at *;subst e;have g:q*C<=q*F:=Aq q a;have i:C<=q*C:=Cd C b;have j:F<=q*F:=Cd F b;have k:(q-1)*C<=(q-1)*F:=Aq _ a;have m:(q-1)*C+C=q*C:=by
  rw[<-Nat.succ_mul];congr 1;omega
 have f:(q-1)*F+F=q*F:=by
  rw[<-Nat.succ_mul];congr 1;omega
 refine⟨Y,by rw[c];grind,by rw[d];grind,?_,Y,Y,Y,Y⟩;grind
def D6.small{l nb:Nat}(hs:D6 o v s h l w nb C F)(hl:1<=l):nb+F<=o/\w+C<=v:=by
 obtain⟨e,f,g,i,j,k,m,n⟩:=hs;have a:nb<=nb*l:=Ci nb hl;have b:F<=F*h:=Ci F Y;have c:w<=w*l:=Ci w hl;have d:C<=C*h:=Ci C Y;omega
def EQ(A B b c a nb:Nat):Prop:=
 A=c*Y2 (a*A) (nb*B)+nb*Y2 (b*A) (c*B)/\B=b*Y2 (a*A) (nb*B)+a*Y2 (b*A) (c*B)/\
 Y2 (a*A) (nb*B)<Y2 (b*A) (c*B)/\1<=nb
def Ke{x:Nat}(a:0<=z)(h:z=(x:Int)-y\/z=(y:Int)-x):(Y2 x y:Int)=z:=by
 unfold Y2;omega
theorem D6.out{S al be l nb:Nat}(hs:D6 o v s h l w nb C F)(G:A=o*S+al)(H:B=v*S+be)(n:al<S)(p:be<S)
(hl:F<=l)(I:nb+F<=h-l):EQ A B w nb C F:=by
 obtain⟨m,x,y,c,z,D,E,L⟩:=hs;have j:(o:Int)=nb*l+F*h:=by rw[x];push_cast;rfl
 have k:(v:Int)=w*l+C*h:=by rw[y];push_cast;rfl
 have g:(A:Int)=o*S+al:=by rw[G];push_cast;rfl
 have i:(B:Int)=v*S+be:=by rw[H];push_cast;rfl
 have b:s*s=1:=DN
 obtain⟨X,d⟩:∃X:Int,X=s*(w*A-nb*B):=⟨_,J⟩;obtain⟨a,e⟩:∃a:Int,a=-s*(C*A-F*B):=⟨_,J⟩;have x1:X=(h:Int)*S+s*(w*al-nb*be):=by
  have:X=(s*(w*F-nb*C))*h*S+s*(w*al-nb*be):=by rw[d,g,i,j,k];grind
  rw[this,c,b];grind
 have q:a=(l:Int)*S-s*(C*al-F*be):=by
  have:a=(s*(w*F-nb*C))*l*S-s*(C*al-F*be):=by rw[e,g,i,j,k];grind
  rw[this,c,b];grind
 have c1:(C:Int)*al<=F*al:=by exact_mod_cast Af al z
 have c2:(F:Int)*al<F*S:=by exact_mod_cast CD n Y
 have c3:(F:Int)*be<F*S:=by exact_mod_cast CD p Y
 have c4:(F:Int)*S<=l*S:=by exact_mod_cast Af S hl
 have d1:((w+C:Nat):Int)*al<=(nb+F:Nat)*al:=by exact_mod_cast Af al D
 have r:((nb+F:Nat):Int)*al<(nb+F:Nat)*S:=by exact_mod_cast CD n Y
 have t:((nb+F:Nat):Int)*be<(nb+F:Nat)*S:=by exact_mod_cast CD p Y
 have f:((nb+F:Nat):Int)*S<=(h-l:Nat)*S:=by exact_mod_cast Af S I
 have u:((h-l:Nat):Int)=h-l:=Y
 rw[u]at f;simp only[Int.natCast_add,Int.add_mul,Int.sub_mul]at d1 r t f;have p1:(0:Int)<=F*be:=by exact_mod_cast AO _
 have P:(0:Int)<=C*al:=by exact_mod_cast AO _
 have Q:(0:Int)<=w*al:=by exact_mod_cast AO _
 have R:(0:Int)<=nb*be:=by exact_mod_cast AO _
 have N:0<a:=by
  rw[q];rcases m with rfl|rfl<;>omega
 have M:a<X:=by
  rw[x1,q];rcases m with rfl|rfl<;>omega
 have ex:(Y2 (w*A) (nb*B):Int)=X:=Ke Y DN;have K:(Y2 (C*A) (F*B):Int)=a:=Ke Y DN;refine⟨?_,?_,Y,E⟩
 . have:(A:Int)=nb*a+F*X:=by
    have:(nb:Int)*a+F*X=(s*(w*F-nb*C))*A:=by rw[d,e];grind
    rw[this,c,b];omega
   grind
 . have:(B:Int)=w*a+C*X:=by
    have:(w:Int)*a+C*X=(s*(w*F-nb*C))*B:=by rw[d,e];grind
    rw[this,c,b];omega
   grind
theorem EQ.gcd{A B b c a nb:Nat}(h:EQ A B b c a nb):Nat.gcd (Y2 (b*A) (c*B)) (Y2 (a*A) (nb*B))=Nat.gcd A B:=by
 obtain⟨d,e,_,_⟩:=h;apply Nat.dvd_antisymm
 . grind[Nat.gcd_dvd_left,Nat.gcd_dvd_right,Nat.dvd_gcd,Nat.dvd_add]
 grind[Nat.gcd_dvd_left,Nat.gcd_dvd_right,Y2,Nat.dvd_add,Nat.dvd_sub,Nat.dvd_gcd]
def EQ.less{nb:Nat}(h:EQ A B o v w nb)(hp:v≠0)(g:0<B):Y2 (o*A) (v*B)+Y2 (w*A) (nb*B)<A+B:=by
 obtain⟨c,d,e,f⟩:=h;have a:Y2 (w*A) (nb*B)<=v*Y2 (w*A) (nb*B):=Cd _ Y;have b:Y2 (o*A) (v*B)<=nb*Y2 (o*A) (v*B):=Cd _ Y;omega
