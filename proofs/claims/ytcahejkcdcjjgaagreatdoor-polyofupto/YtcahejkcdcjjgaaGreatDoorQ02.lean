import Derived.Test.YtcahejkcdcjjgaaGreatDoorQ01
set_option linter.all false
set_option maxRecDepth 99999
set_option maxHeartbeats 0
namespace Go.Proofs.YtcahejkcdcjjgaaGreatDoor
def DC:=@Nat.mul_pos
def Bi:=@decide_eq_false_iff_not
def Bd:=@decide_eq_true_eq
def val(B:Nat):Ja->Nat
 |[]=>0
 |d::ds=>d+B*val B ds
def DE(B:Nat)(ds:Ja):Prop:=∀d∈ds,d<B
def EH(B:Nat):Nat->Nat->Ja
 |0,_=>[]
 |k+1,n=>if n=0\/B<2 then []else n%B::EH B k (n/B)
def Jb(B n:Nat):Ja:=EH B n n
theorem KE(B:Nat):∀(k n m:Nat),n<=k->n<=m->EH B k n=EH B m n
 |0,n,m,h,_=>by
  have:n=0:=O
  subst this;cases m with
  |zero=>rfl
  |succ m=>rw[EH,EH,BM (Al J)]
 |k+1,n,0,_,h=>by
  grind[EH]
 |k+1,n,m+1,a,b=>by
  rw[EH,EH];by_cases h:n=0\/B<2
  . rw[BM h,BM h]
  . have c:n/B<n:=C2 O O;rw[BJ h,BJ h,KE B k (n/B) m O O]
def Jp:Ja->Ja
 |[]=>[]
 |d::ds=>match Jp ds with
  |[]=>if d=0 then []else [d]
  |e::es=>d::e::es
variable{s z:Int}{D a b ds:Ja}{l:List UInt8}{A B C E H R V d d0 d1 g h i j k lo lo2 m n o p q r u u1 v w y:Nat}{c:UInt8}{f:UInt8->Bool}
theorem DE.nil(B:Nat):DE B []:=λ_ h=>by cases h
theorem DE.cons(h:d<B)(k:DE B ds):DE B (d::ds):=λx a=>by
 rcases List.mem_cons.1 a with rfl|a
 . exact h
 . exact k x a
def DE.head(h:DE B (d::ds)):d<B:=h d (Cq ..)
def DE.tail(h:DE B (d::ds)):DE B ds:=λx a=>h x (List.mem_cons_of_mem _ a)
def DE.append(h:DE B a)(k:DE B b):DE B (a++b):=λx c=>by
 rcases Cp.1 c with c|c
 . exact h x c
 . exact k x c
def DE.left(h:DE B (a++b)):DE B a:=λx c=>h x (Cp.2 (Al c))
def DE.right(h:DE B (a++b)):DE B b:=λx c=>h x (Cp.2 (Au c))
theorem FV(B:Nat):val B []=0:=rfl
theorem JO(B d:Nat)(ds:Ja):val B (d::ds)=d+B*val B ds:=rfl
theorem val_append(B:Nat):∀(a b:Ja),val B (a++b)=val B a+B^a.length*val B b
 |[],b=>by simp[val]
 |d::a,b=>by
  simp only[Am,JO,val_append B a b,Ai,A9];grind
theorem JS{B:Nat}:∀ {ds:Ja},DE B ds->val B ds<B^ds.length
 |[],_=>by simp[val]
 |d::ds,h=>by
  have b:=h.head;have a:=JS h.tail;simp only[JO,Ai,A9];have c:B*val B ds+B<=B*B^ds.length:=by
   rw[<-Nat.mul_succ];exact Ar _ a
  grind
theorem Js(B:Nat):Jb B 0=[]:=rfl
theorem YI(b:2<=B)(c:n≠0):Jb B n=n%B::Jb B (n/B):=by
 unfold Jb;obtain⟨m,rfl⟩:∃m,n=m+1:=⟨n-1,O⟩;have a:(m+1)/B<m+1:=C2 O O;grind[EH,KE]
theorem Ji(b:2<=B)(n:Nat):val B (Jb B n)=n:=by
 induction n using Nat.strongRecOn with
 |ind n c=>
  by_cases a:n=0
  . subst a;rw[Js];rfl
  grind[YI,JO,C2,Nat.mod_add_div]
theorem Jh(a:2<=B)(n:Nat):DE B (Jb B n):=by
 induction n using Nat.strongRecOn with
 |ind n b=>
  grind[Js,DE.nil,YI,DE.cons,AK,C2]
theorem Jt(a:2<=B):Jb B n=[]↔n=0:=by
 constructor
 . intro h;have:=Ji a n;rw[h]at this;exact this.symm
 . intro h;rw[h,Js]
theorem YC(h:Jp ds=[]):Jp (d::ds)=if d=0 then []else [d]:=by
 simp only[Jp,h]
theorem Xd(h:Jp ds≠[]):Jp (d::ds)=d::Jp ds:=by
 grind[Jp]
theorem Fz(B:Nat):∀(ds:Ja),val B (Jp ds)=val B ds
 |[]=>rfl
 |d::ds=>by
  by_cases h:Jp ds=[]
  . have:=Fz B ds;grind[YC,val]
  . rw[Xd h,JO,JO,Fz B ds]
theorem JN{B:Nat}(e:2<=B):∀ {ds:Ja},DE B ds->Jb B (val B ds)=Jp ds
 |[],_=>by rw[FV,Js];rfl
 |d::ds,h=>by
  have c:=h.head;have k:=JN e h.tail;rw[JO];by_cases j:d+B*val B ds=0
  . have l:d=0:=O
    have i:val B ds=0:=by
     rcases AF (val B ds)with b|b
     . exact b
     . have:0<B*val B ds:=DC O b
       omega
    grind[Js,YC]
  . rw[YI e j];have f:(d+B*val B ds)%B=d:=by rw[Cj];exact Cb c
    have g:(d+B*val B ds)/B=val B ds:=by
     rw[Cw _ _ O,AV c,Cd]
    rw[f,g,k];by_cases a:Jp ds=[]
    . rw[YC a,a];have i:val B ds=0:=by rw[<-Fz B ds,a];rfl
      grind
    . rw[Xd a]
def Dn(ds:Ja):Prop:=Jp ds=ds
def JT(a:2<=B)(n:Nat):Dn (Jb B n):=by
 have h:=JN a (Jh a n);rw[Ji a]at h;exact h.symm
theorem Yy(a:2<=B)(h:DE B ds)(b:Dn ds):Jb B (val B ds)=ds:=(JN a h).trans b
theorem Yz:∀(ds:Ja) {d:Nat},d≠0->Jp (ds++[d])=ds++[d]
 |[],d,h=>by simp[Jp,h]
 |e::ds,d,h=>by
  have a:=Yz ds h;rw[Am,Xd (by rw[a];simp),a]
theorem J9:∀(ds:Ja),Jp (ds++[0])=Jp ds
 |[]=>by simp[Jp]
 |e::ds=>by
  have a:=J9 ds;grind[Jp]
theorem KF(ds:Ja)(k:Nat)(n:k<=ds.length)(d:∀j,k<=j->j<ds.length->ds[j]?=some 0):Jp (ds.take k)=Jp ds:=by
 obtain⟨m,a⟩:∃m,ds.length=k+m:=⟨ds.length-k,O⟩;induction m generalizing ds with
 |zero=>grind
 |succ m c=>
  have o:ds≠[]:=by intro e;rw[e]at a;simp at a
  have hl:ds=ds.take (k+m)++[0]:=by
   apply List.ext_getElem?;intro i;by_cases l:i<k+m
   . grind
   . grind
  have b:(ds.take (k+m)).length=k+m:=by rw[Ae];omega
  have:=c (ds.take (k+m)) O (by
   intro j f g;grind) b
  grind[J9]
theorem NI(ds:Ja)(k:Nat)(b:k<ds.length)(c:ds[k]?≠some 0)(a:∀j,k<j->j<ds.length->ds[j]?=some 0):Jp ds=ds.take (k+1):=by
 grind[KF,AG,Yz]
def NJ(ds:Ja)(a:∀j,j<ds.length->ds[j]?=some 0):Jp ds=[]:=by
 have:=KF ds 0 O λj _ h=>a j h;rw[<-this];simp[Jp]
def KG{B:Nat}:∀ {ds:Ja},DE B ds->DE B (Jp ds)
 |[],h=>h
 |d::ds,h=>by
  by_cases a:Jp ds=[]
  . rw[YC a];split
    . exact DE.nil B
    . exact DE.cons h.head (DE.nil B)
  . rw[Xd a];exact DE.cons h.head (KG h.tail)
theorem YP:∀(ds:Ja),(Jp ds).length<=ds.length
 |[]=>by simp[Jp]
 |d::ds=>by
  have:=YP ds;grind[Jp]
theorem Jw(a:2<=B)(h:n<B^k):(Jb B n).length<=k:=by
 induction k generalizing n with
 |zero=>
  grind[Js]
 |succ k b=>
  grind[YI,Nat.div_lt_of_lt_mul]
def KH(b:2<=B)(h:(Jb B n).length=k+1):B^k<=n:=by
 rcases Az n (B^k)with a|a
 . have:=Jw b a;omega
 . exact a
def Ya(a:2<=B)(h:(Jb B m).length<(Jb B n).length):m<n:=by
 have b:m<B^(Jb B m).length:=by
  have:=JS (Jh a m);rwa[Ji a]at this
 have c:B^((Jb B n).length-1)<=n:=KH a O;have d:B^(Jb B m).length<=B^((Jb B n).length-1):=Ap O O;omega
def Ym(m n:Nat):Int:=if m<n then -1 else if n<m then 1 else 0
theorem Gy(m:Nat):Ym m m=0:=by simp[Ym]
theorem Xe(h:m<n):Ym m n=-1:=by simp[Ym,h]
theorem E2(h:n<m):Ym m n=1:=by
 grind[Ym]
theorem KI(ds:Ja)(k:Nat)(a:k<ds.length):val B ds=val B (ds.take k)+B^k*(ds[k]?.getD 0+B*val B (ds.drop (k+1))):=by
 grind[AR,AD,val_append,JO]
def DE.take{B:Nat}{ds:Ja}(h:DE B ds)(k:Nat):DE B (ds.take k):=λx a=>h x (CW a)
def DE.drop{B:Nat}{ds:Ja}(h:DE B ds)(k:Nat):DE B (ds.drop k):=λx a=>h x (List.mem_of_mem_drop a)
def DE.get(h:DE B ds)(a:k<ds.length):ds[k]?.getD 0<B:=by
 rw[Ak a];exact h _ (CY a)
theorem DE.getD{B:Nat}{ds:Ja}(h:DE B ds)(b:0<B)(k:Nat):ds[k]?.getD 0<B:=by
 rcases Az k ds.length with a|a
 . exact h.get a
 grind
theorem Gz(e:DE B a)(hl:a.length=b.length)(k:Nat)(g:k<a.length)(f:a.drop (k+1)=b.drop (k+1))(h:a[k]?.getD 0<b[k]?.getD 0):val B a<val B b:=by
 rw[KI a k g,KI b k O,<-f];have c:=JS (e.take k);have d:(a.take k).length=k:=by rw[Ae];omega
 rw[d]at c;have i:B^k*(a[k]?.getD 0+B*val B (a.drop (k+1)))+B^k<=B^k*(b[k]?.getD 0+B*val B (a.drop (k+1))):=by
  rw[<-Nat.mul_succ];exact Ar _ O
 omega
theorem KJ(hl:a.length=b.length)(k:Nat)(d:k<a.length)(c:a.drop (k+1)=b.drop (k+1))(h:a[k]?.getD 0=b[k]?.getD 0):a.drop k=b.drop k:=by
 grind[AD]
theorem J6(c:2<=B)(d:DE B a)(e:DE B b)(f:Dn a)(g:Dn b)(h:a.length<b.length):val B a<val B b:=by
 apply Ya c;grind[Yy]
theorem Jl(B:Nat)(ds:Ja)(k:Nat):val B (ds.take (k+1))=val B (ds.take k)+B^k*ds[k]?.getD 0:=by
 grind[AG,val_append,val,Ac]
theorem J0(B:Nat)(ds:Ja)(d:Nat):val B (ds++[d])=val B ds+B^ds.length*d:=by
 rw[val_append];simp[val]
theorem Ha(c:2<=B)(h:DE B ds)(hp:ds=[]\/B^(ds.length-1)<=val B ds):Dn ds:=by
 rcases hp with rfl|hp
 . rfl
 . have a:=YP ds;rcases Az (Jp ds).length ds.length with g|e
   . have b:=JS (KG h);rw[Fz]at b;have f:B^(Jp ds).length<=B^(ds.length-1):=Ap O O;omega
   . have hl:(Jp ds).length=ds.length:=O
     clear a e hp h c;unfold Dn;induction ds with
     |nil=>rfl
     |cons d ds i=>
      grind[Jp]
theorem NK(a:Ja)(c s A:Nat)(h:val B a+B^a.length*c=A):val B (a++[(c+s)%B])+B^(a.length+1)*((c+s)/B)=A+B^a.length*s:=by
 grind[J0,Nat.mod_add_div]
def Yp(a:2<=B)(h:(Jb B n).length=k)(b:k≠0):B^(k-1)<=n:=KH a O
theorem NL(b:2<=B){a:Ja}(d:DE B a)(e:val B a=m+n)
(hl:a.length<=max (Jb B m).length (Jb B n).length\/B^(a.length-1)<=val B a)(hle:max (Jb B m).length (Jb B n).length<=a.length):a=Jb B (m+n):=by
 rw[<-e];refine(Yy b d (Ha b d ?_)).symm;by_cases c:a.length=0
 . grind
 . right
   rcases hl with hl|hl
   . have f:a.length=max (Jb B m).length (Jb B n).length:=O
     rcases Nat.le_total (Jb B m).length (Jb B n).length with h|h
     . have:=Yp b (n:=n) (k:=a.length) O c;omega
     . have:=Yp b (n:=m) (k:=a.length) O c;omega
   . exact hl
def Do(d:Nat):UInt8:=UInt8.ofNat (48+d)
def Di(ds:Ja):List UInt8:=(ds.map Do).reverse
def Yv(n:Nat):List UInt8:=if n=0 then [48]else Di (Jb 10 n)
def Yo(z:Int):List UInt8:=if z<0 then 45::Yv z.natAbs else Yv z.natAbs
def Hb(ds:Ja)(d:Nat):Di (ds++[d])=Do d::Di ds:=by simp[Di]
theorem KK(ds:Ja):(Di ds).length=ds.length:=by simp[Di]
def YQ(ds:Ja)(i k n:Nat)(D:Ja):Prop:=
 D.length=4*i+k/\DE 10 D/\k<=4/\n=ds[i]?.getD 0/10^k/\val 10 D+10^(4*i+k)*n=val 10000 (ds.take i)+10000^i*ds[i]?.getD 0/\(i+1<ds.length\/k=0\/10^(k-1)<=ds[i]?.getD 0)
def Hc(i:Nat):(10:Nat)^(4*i)=10000^i:=by rw[Nat.pow_mul]
def YQ.start(hl:D.length=4*i)(a:DE 10 D)(b:val 10 D=val 10000 (ds.take i)):YQ ds i 0 (ds[i]?.getD 0) D:=by
 refine⟨O,a,O,sp,?_,Au (Al J)⟩;rw[AX,Hc,b]
theorem YQ.step(h:YQ ds i k n D)(j:k<4)(g:0<n\/i+1<ds.length):YQ ds i (k+1) (n/10) (D++[n%10]):=by
 obtain⟨c,a,d,b,e,f⟩:=h;refine⟨by simp;omega,a.append (DE.cons (AK _ O) (DE.nil _)),O,?_,?_,?_⟩
 . rw[b,Nat.div_div_eq_div_mul,<-A9]
 . grind[J0,Nat.mod_add_div]
 grind[Nat.div_pos_iff]
theorem YQ.next(h:YQ ds i 4 n D)(c:DE 10000 ds):D.length=4*(i+1)/\DE 10 D/\val 10 D=val 10000 (ds.take (i+1)):=by
 obtain⟨e,f,g,a,j,k⟩:=h;have b:=c.getD O i;have d:n=0:=by rw[a];exact AV (by simpa using b)
 grind[Jl]
def YQ.last(h:YQ ds i k 0 D)(r:i+1=ds.length):D.length<=4*ds.length/\DE 10 D/\val 10 D=val 10000 ds/\(val 10000 ds≠0->Dn ds->D=Jb 10 (val 10000 ds)):=by
 obtain⟨g,b,q,j,l,a⟩:=h;have e:val 10 D=val 10000 ds:=by
  have:=Jl 10000 ds i;rw[Ac O]at this;rw[this,<-l];simp
 refine⟨O,b,e,λt p=>?_⟩;rw[<-e];refine(Yy O b (Ha O b ?_)).symm;have u:ds[i]?.getD 0≠0:=by
  intro c;have m:ds=ds.take i++[0]:=by
   conv=>lhs;rw[<-AR i ds,AD (by omega:i<ds.length)]
   rw[At O];rw[Ak O]at c;have f:ds[i]=0:=c;rw[f]
  have n:(Jp ds).length<=i:=by
   rw[m,J9];have:=YP (ds.take i);rw[Ae]at this;omega
  rw[p]at n;omega
 right
 rw[g,e];have s:k≠0:=by
  intro o;subst o;simp at j;omega
 rcases a with a|a|a
 . omega
 . omega
 . have:=Jl 10000 ds i;rw[Ac O]at this;rw[this];have d:(10:Nat)^(4*i+k-1)=10000^i*10^(k-1):=by
    rw[<-Hc,<-Cx];congr 1;omega
   rw[d];have:=Ar (10000^i) a;omega
theorem F0(h:n≠0):Yv n=Di (Jb 10 n):=by simp[Yv,h]
def DK(c:UInt8):Bool:=decide (48<=c.toNat)&&decide (c.toNat<=57)
def Da(l:List UInt8):Ja:=(l.map λc=>c.toNat-48).reverse
def num(l:List UInt8):Nat:=val 10 (Da l)
def Jz(l:List UInt8):List UInt8:=if l.head?=some 45 then l.tail else l
def good(l:List UInt8):Bool:=decide (l.length<=2000) && !(Jz l).isEmpty&&(!decide ((Jz l).head?=some 48) || decide (l=[48]))&&(Jz l).all DK
def Yb(l:List UInt8):Int:=if l.head?=some 45 then -(num (Jz l):Int)else num (Jz l)
theorem JU(h:DK c=true):48<=c.toNat/\c.toNat<=57:=by simpa[DK]using h
theorem Y5(h:d<10):(Do d).toNat=48+d:=by
 unfold Do;rw[UInt8.toNat_ofNat'];omega
theorem NM(h:DK c=true):Do (c.toNat-48)=c:=by
 grind[JU,Cy,Y5]
def NN(l:List UInt8)(c:UInt8):Da (l++[c])=(c.toNat-48)::Da l:=by simp[Da]
theorem F1(l:List UInt8)(c:UInt8):num (l++[c])=(c.toNat-48)+10*num l:=by rw[num,NN,JO];rfl
def NO(a b:List UInt8):Da (a++b)=Da b++Da a:=by simp[Da]
theorem Xx(l:List UInt8):(Da l).length=l.length:=by simp[Da]
theorem Y6(a b:List UInt8):num (a++b)=num b+10^b.length*num a:=by rw[num,NO,val_append,Xx];rfl
theorem F2(h:l.all DK=true):DE 10 (Da l):=by
 intro d a;grind[Da,JU]
theorem NP(h:l.all DK=true):Di (Da l)=l:=by
 simp only[Di,Da,List.map_reverse,List.reverse_reverse,List.map_map];conv=>rhs;rw[<-List.map_id l]
 grind[Ck,NM]
theorem NQ(b:DK c=true)(a:c≠48):Dn (Da (c::l)):=by
 have e:Da (c::l)=Da l++[c.toNat-48]:=by simp[Da]
 rw[e];refine Yz _ ?_;have:=JU b;intro h;apply a;apply Cy.1;grind
theorem F3(h:(c::l).all DK=true)(a:c≠48):Yv (num (c::l))=c::l/\num (c::l)≠0:=by
 grind[Yy,F2,NQ,num,Js,Xx,F0,NP]
theorem KL(h:good l=true):Yo (Yb l)=l:=by
 simp only[good,A4,Bd,Bool.or_eq_true,Cl,Bi]at h;obtain⟨⟨⟨_,j⟩,f⟩,a⟩:=h;cases e:Jz l with
 |nil=>grind
 |cons c t=>
  rw[e]at f a;by_cases b:c=48
  . grind[Yb,Jz,Yo,Yv,num,Da,val]
  . obtain⟨g,i⟩:=F3 a b;by_cases d:l.head?=some 45
    . have hl:l=45::c::t:=by
       cases l with
       |nil=>simp at d
       |cons x k=>
        grind[Jz]
      grind[Yb,Yo]
    grind[Jz,Yb,Yo]
def NR(h:DE 10 ds):(Di ds).all DK=true:=by
 rw[Ay];intro c a;simp only[Di,List.mem_reverse,List.mem_map]at a;obtain⟨d,b,rfl⟩:=a;have:=h d b;simp[DK,Y5 this];omega
def NS(h:DE 10 ds):num (Di ds)=val 10 ds:=by
 have e:Da (Di ds)=ds:=by
  simp only[Di,Da,List.map_reverse,List.reverse_reverse,List.map_map];conv=>rhs;rw[<-List.map_id ds]
  apply Ck;intro d a;have:=h d a;simp[Y5 this]
 rw[num,e]
theorem F4(j:n≠0):∃c t,Yv n=c::t/\c≠48/\c≠45/\(c::t).all DK=true/\num (c::t)=n:=by
 have a:=Jh (B:=10) O n;have k:=JT (B:=10) O n;have q:=Ji (B:=10) O n;have m:Jb 10 n≠[]:=by rw[Ne,Jt O];exact j
 have f:=NR a;have b:=NS a;have e:Yv n=Di (Jb 10 n):=F0 j;rw[q]at b;obtain⟨ds,d,p⟩:∃ds d,Jb 10 n=ds++[d]:=⟨_,_,(List.dropLast_concat_getLast m).symm⟩;rw[p]at f b e k a;rw[Hb]at f b e;have r:d≠0:=by
  intro o;subst o;have g:(Jp (ds++[0])).length<=ds.length:=by rw[J9];exact YP ds
  rw[k]at g;simp at g;omega
 have l:d<10:=a d sp;have i:=Y5 l;refine⟨Do d,Di ds,e,?_,?_,f,b⟩
 . intro h;rw[h]at i;grind
 . intro h;rw[h]at i;grind
theorem NT(h:(Yo z).length<=2000):good (Yo z)=true/\Yb (Yo z)=z:=by
 by_cases a:z.natAbs=0
 . have:z=0:=O
   subst this;simp[Yo,Yv,good,Yb,Jz,num,Da,val,DK]
 . obtain⟨c,t,e,d,b,f,g⟩:=F4 a;grind[Yo,good,Jz,Yb]
theorem NU(a:10<=B):(Jb B n).length<=(Jb 10 n).length:=by
 refine Jw O ?_;have h:=JS (Jh (B:=10) O n);grind[Ji,Ao,CL]
theorem NW(h:good l=true)(a:10<=B):(Jb B (Yb l).natAbs).length<=2000:=by
 grind[KL,good,NU,Js,F0,KK,Yo]
def Yu(f:UInt8->Bool)(l:List UInt8)(i:Nat):Nat:=i+((l.drop i).takeWhile f).length
def DJ(l:List UInt8)(i:Nat):Nat:=Yu (·==32) l i
def Dt(l:List UInt8)(i:Nat):Nat:=Yu DK l i
theorem NX(d:n<=l.length)(a:∀k (h:k<n),f l[k]=true)(e:∀h:n<l.length,f l[n]=false):(l.takeWhile f).length=n:=by
 induction l generalizing n with
 |nil=>simp at d ⊢;omega
 |cons c t g=>
  cases n with
  |zero=>
   grind[List.takeWhile_cons_of_neg]
  |succ n=>
   have:=a 0 O;simp at this;rw[List.takeWhile_cons_of_pos this,Ai,g (n:=n) (by simpa using d) (λk b=>a (k+1) O) λb=>e (by simpa using b)]
theorem F5(d:i<=j)(e:j<=l.length)(b:∀k (h:k<l.length),i<=k->k<j->f l[k]=true)(c:∀h:j<l.length,f l[j]=false):Yu f l i=j:=by
 unfold Yu;rw[NX (n:=j-i) DO]
 . omega
 . intro k a;grind
 . intro a;grind
theorem Xy(f:UInt8->Bool)(l:List UInt8):(l.takeWhile f).length<=l.length/\(∀k (h:k<l.length),k<(l.takeWhile f).length->f l[k]=true)/\∀h:(l.takeWhile f).length<l.length,f (l[(l.takeWhile f).length]'h)=false:=by
 induction l with
 |nil=>simp
 |cons c t b=>
  by_cases a:f c=true
  . grind[List.takeWhile_cons_of_pos]
  grind[List.takeWhile_cons_of_neg]
def Hd(f:UInt8->Bool)(l:List UInt8)(i:Nat):i<=Yu f l i:=Nat.le_add_right _ _
theorem He(a:i<=l.length):Yu f l i<=l.length:=by
 grind[Xy,Yu]
theorem NY(b:i<=k)(a:k<Yu f l i)(h:k<l.length):f l[k]=true:=by
 have:=(Xy f (l.drop i)).2.1 (k-i) DO (by unfold Yu at a;omega);grind
theorem Hf(h:Yu f l i<l.length):f (l[Yu f l i]'h)=false:=by
 grind[Yu,Xy]
def NZ(f:UInt8->Bool)(l:List UInt8)(i:Nat):Yu f l (Yu f l i)=Yu f l i:=by
 rcases Az (Yu f l i) l.length with h|h
 . exact F5 (Aa _) O (λk _ b c=>by omega) λa=>Hf a
 . unfold Yu;rw[show i+((l.drop i).takeWhile f).length=Yu f l i from J,At h];rfl
def YR(l:List UInt8)(j:Nat)(c:UInt8):Bool:=l[j]?==some c
abbrev Rd(α:Type):=EStateM.Result Nat Nat α
def Y7(l:List UInt8)(i:Nat):Rd (List UInt8 × Nat):=
 if Dt l (DJ l i)=DJ l i then .error 2 (DJ l i)
 else if 12<Dt l (DJ l i)-DJ l i then .error 3 (DJ l i)
 else .ok (((l.drop (DJ l i)).take (Dt l (DJ l i)-DJ l i)),DJ l i) (Dt l (DJ l i))
def YA(l:List UInt8)(i:Nat):Rd Rat:=
 match Y7 l i with
 |.error e p=>.error e p
 |.ok (ds,_) k=>
  if YR l (DJ l k) 47 then
   match Y7 l (DJ l k+1)with
   |.error e p=>.error e p
   |.ok (a,p) m=>if num a=0 then .error 4 p else .ok (Rat.divInt (num ds) (num a)) m
  else .ok ((num ds:Int):Rat) (DJ l k)
def Dy(l:List UInt8)(i:Nat):Rd Nat:=
 if YR l (DJ l i) 94 then
  match Y7 l (DJ l i+1)with
  |.error e p=>.error e p
  |.ok (ds,p) k=>if 8<num ds then .error 3 p else .ok (num ds) k
 else .ok 1 (DJ l i)
def D4(l:List UInt8)(j:Nat):Bool:=(l[j]?.map DK).getD false
def Yh(l:List UInt8)(i:Nat):Rd (Rat × Nat):=
 if D4 l (DJ l i)then
  match YA l (DJ l i)with
  |.error e p=>.error e p
  |.ok c k=>
   if YR l (DJ l k) 120 then
    match Dy l (DJ l k+1)with
    |.error e p=>.error e p
    |.ok n m=>.ok (c,n) m
   else .ok (c,0) (DJ l k)
 else if YR l (DJ l i) 120 then
  match Dy l (DJ l i+1)with
  |.error e p=>.error e p
  |.ok n m=>.ok (1,n) m
 else .error 2 (DJ l i)
def Du(l:List UInt8):Nat->Bool->Nat->X->Rd X
 |0,_,i,_=>.error 0 i
 |f+1,b,i,s=>
  match Yh l i with
  |.error e p=>.error e p
  |.ok (c,n) k=>
   let a:=s.set n (if b then cf s n-c else cf s n+c)
   if YR l (DJ l k) 43 then Du l f false (DJ l k+1) a
   else if YR l (DJ l k) 45 then Du l f true (DJ l k+1) a
   else if DJ l k=l.length then .ok a (DJ l k)
   else .error 2 (DJ l k)
def YD(l:List UInt8):X × Nat × Nat:=
 if 300<l.length then([],1,0)
 else
  match (if YR l (DJ l 0) 45 then Du l (l.length+1) true (DJ l 0+1) (List.replicate 9 0)else Du l (l.length+1) false (DJ l 0) (List.replicate 9 0))with
  |.error e p=>([],e,p)
  |.ok s _=>(JE s,0,0)
def X8{ds:List UInt8}(e:i<=l.length)(h:Y7 l i=.ok (ds,p) k):p=DJ l i/\k=Dt l p/\i<=p/\p<k/\k<=l.length/\k-p<=12/\ds=(l.drop p).take (k-p)/\ds.length=k-p/\ds.all DK=true:=by
 unfold Y7 at h;split at h
 . cases h
 . split at h
   . cases h
   . rename_i j m;simp only[EStateM.Result.ok.injEq,Prod.mk.injEq]at h;obtain⟨⟨rfl,rfl⟩,rfl⟩:=h;have hs:DJ l i<=l.length:=He e;have o:DJ l i<=Dt l (DJ l i):=Hd _ _ _;have b:Dt l (DJ l i)<=l.length:=He hs;have a:((l.drop (DJ l i)).take (Dt l (DJ l i)-DJ l i)).length=Dt l (DJ l i)-DJ l i:=by rw[Ae,A5];omega
     refine⟨J,J,Hd _ _ _,O,b,O,J,a,?_⟩;rw[Ay];intro c d;obtain⟨n,g,rfl⟩:=List.mem_iff_getElem.1 d;rw[a]at g;rw[List.getElem_take,List.getElem_drop];exact NY (f:=DK) (i:=DJ l i) O (by show _<Dt l (DJ l i);omega) O
def Hg{ds:List UInt8}(a:i<=l.length)(h:Y7 l i=.ok (ds,p) k):i<k/\k<=l.length:=by
 have:=X8 a h;omega
theorem YS(h:YR l j c=true):j<l.length:=by
 grind[YR]
theorem XT(a:i<=l.length):DJ l i<=l.length:=He a
def FW(l:List UInt8)(i:Nat):i<=DJ l i:=Hd _ _ _
theorem KM{c:Rat}(f:i<=l.length)(h:YA l i=.ok c k):i<k/\k<=l.length:=by
 unfold YA at h;split at h
 . cases h
 . rename_i ds p g b;have d:=Hg f b;have n:=FW l g;have o:=XT d.2;split at h
   . rename_i a;have a:=YS a;split at h
     . cases h
     . rename_i j r m e;have q:=Hg O e;grind
   . cases h;omega
theorem KN(c:i<=l.length)(h:Dy l i=.ok n k):i<=k/\k<=l.length/\n<=8:=by
 unfold Dy at h;have e:=FW l i;have f:=XT c;split at h
 . rename_i a;have a:=YS a;split at h
   . cases h
   . rename_i d j m b;have g:=Hg O b;grind
 . cases h;omega
def Na{c:Rat}(j:i<=l.length)(h:Yh l i=.ok (c,n) k):i<k/\k<=l.length/\n<=8:=by
 unfold Yh at h;have q:=FW l i;have f:=XT j;split at h
 . split at h
   . cases h
   . rename_i c' o d;have e:=KM f d;have r:=FW l o;have s:=XT e.2;split at h
     . rename_i a;have a:=YS a;split at h
       . cases h
       . rename_i p m b;have g:=KN O b;cases h;omega
     . cases h;omega
 . split at h
   . rename_i a;have a:=YS a;split at h
     . cases h
     . rename_i p m b;have g:=KN O b;cases h;omega
   . cases h
def FX(u u1 d1 d0 q r:Nat):Prop:=
 q*d1+r=u/\(u*4294967296+u1)/(d1*4294967296+d0)<=q/\q<=4294967297/\r<4294967296
theorem KO(b:2147483648<=d1)(c:d1<4294967296)(a:d0<4294967296)(i:u1<4294967296)(g:u<d1*4294967296+d0):
 FX u u1 d1 d0 (u/d1) (u%d1):=by
 have e:=AO u d1;have f:u%d1<d1:=AK _ O;have d:d1*(u/d1)=u/d1*d1:=AC _ _;refine⟨O,?_,?_,O⟩
 . apply Cr;rw[Aq O];grind
 . apply Cr;rw[Aq O];omega
theorem KP(h:FX u u1 d1 d0 q r)(d:0<d1)(c:q*d0<=4294967296*r+u1):q=(u*4294967296+u1)/(d1*4294967296+d0):=by
 obtain⟨a,b,_,_⟩:=h;grind[Nat.le_antisymm,CE]
theorem KQ(h:FX u u1 d1 d0 q r)(j:2147483648<=d1)(l:u1<4294967296)(k:u<d1*4294967296+d0)(a:4294967296<=q\/4294967296*r+u1<q*d0):
 1<=q/\(q-1)*d1+(r+d1)=u/\(u*4294967296+u1)/(d1*4294967296+d0)<=q-1/\q-1<=4294967296:=by
 obtain⟨c,d,f,g⟩:=h;have b:1<=q:=by
  rcases a with a|a
  . omega
  . grind
 have e:(q-1)*d1+d1=q*d1:=by
  conv=>rhs;rw[show q=q-1+1 from by omega,Cm,C4]
 refine⟨b,O,?_,O⟩;apply Cr;rw[Nat.succ_eq_add_one,Nat.sub_add_cancel b,Aq O];rcases a with a|a
 . have i:4294967296*(d1*4294967296+d0)<=q*(d1*4294967296+d0):=Af _ a;omega
 grind
def XJ(d:q*d1+r=u)(a:(u*4294967296+u1)/(d1*4294967296+d0)<=q)(b:q<=4294967296)(c:d0<4294967296)(f:0<d1)(g:4294967296<=r):q=(u*4294967296+u1)/(d1*4294967296+d0):=by
 apply Nat.le_antisymm _ a;rw[CE O,CM,<-Cf];have e:q*d0<=4294967296*d0:=Af _ b;omega
def KR{t un0:Nat}(a:0<d):t/d*k+(t%d*k+un0)/d=(t*k+un0)/d/\(t%d*k+un0)%d=(t*k+un0)%d:=by
 have b:=AO t d;have e:t*k+un0=d*(t/d*k)+(t%d*k+un0):=by
  conv=>lhs;rw[<-b,Cm,Cf]
  omega
 rw[e,Nat.mul_add_div a,Nat.mul_add_mod];exact⟨J,J⟩
def Nb{a s:Nat}:(a*2^s)/(y*2^s)=a/y/\(a*2^s)%(y*2^s)=a%y*2^s:=
 ⟨Nat.mul_div_mul_right _ _ (AW s),Nat.mul_mod_mul_right _ _ _⟩
def F6(B u u1 d1 d0 q r:Nat):Prop:=
 q*d1+r=u/\(u*B+u1)/(d1*B+d0)<=q/\q<B/\r<B
theorem Nc(a:0<d1)(f:d1<B)(j:u1<B)(c:u<d1*B):F6 B u u1 d1 d0 (u/d1) (u%d1):=by
 have g:=AO u d1;have i:u%d1<d1:=AK _ a;have e:d1*(u/d1)=u/d1*d1:=AC _ _;have hp:0<d1*B:=DC a O;refine⟨O,?_,?_,O⟩
 . apply Cr;rw[Aq O,Nat.succ_eq_add_one];have b:(u/d1+1)*(d1*B+d0)=(u/d1*d1+d1)*B+(u/d1+1)*d0:=DO
   rw[b];have d:(u+1)*B<=(u/d1*d1+d1)*B:=Af _ O;grind
 . rw[Aq a,AC];exact c
def Hh(a:q*d1+r=u)(b:(u*B+u1)/(d1*B+d0)<=q)(d:0<d1*B)(c:q*d0<=r*B+u1):q=(u*B+u1)/(d1*B+d0):=by
 apply Nat.le_antisymm _ b;rw[CE O,CM,<-Cf,<-a,Cm];omega
def Nd(h:F6 B u u1 d1 d0 q r)(j:0<d1*B)(d:r*B+u1<q*d0):
 1<=q/\(q-1)*d1+(r+d1)=u/\(u*B+u1)/(d1*B+d0)<=q-1/\q-1<B:=by
 obtain⟨c,f,g,i⟩:=h;have b:1<=q:=by
  rcases AF q with a|a
  . rw[a]at d;omega
  . exact a
 have e:(q-1)*d1+d1=q*d1:=by
  rw[<-Nat.succ_mul];congr 1;omega
 refine⟨b,O,?_,O⟩;apply Cr;rw[Nat.succ_eq_add_one,Nat.sub_add_cancel b,Aq O,CM,<-Cf,<-c,Cm];omega
def Nf(a:q*d1+r=u)(b:(u*B+u1)/(d1*B+d0)<=q)(f:q<B)(e:d0<B)(c:0<d1*B)(d:B<=r):q=(u*B+u1)/(d1*B+d0):=by
 apply Hh a b c;have g:q*d0<=B*d0:=Af _ O;have i:B*d0<=B*B:=Ar _ O;have j:B*B<=r*B:=Af _ d;omega
def EI(R V g:Nat):Prop:=R<(g+1)*V/\g*V<=R+V
theorem Ng{T:Nat}(l:R=T*E+lo)(a:V=o*E+lo2)(j:lo<E)(k:lo2<E)(p:T/o<=o)(d:0<o):EI R V (T/o):=by
 have m:=AO T o;have n:=AK T d;generalize T/o=g at *;generalize T%o=t at *;have b:(T+1)*E<=(o*g+o)*E:=Af _ O;have e:(g+1)*V=(o*g+o)*E+(g+1)*lo2:=by rw[a];grind
 have f:g*lo2<=g*E:=Ar _ O;have c:(o*g+g)*E<=(T+o)*E:=Af _ O;have i:g*V=o*g*E+g*lo2:=by rw[a];grind
 rw[Cm]at b c;refine⟨?_,?_⟩
 . omega
 grind
theorem Nh(a:R=d1*(B*E)+lo)(b:V=d1*E+lo2)(f:lo2<E)(j:B<=2*d1)(i:R<V*B)(g:2<=B):EI R V (B-1):=by
 refine⟨DO,?_⟩;obtain⟨c,rfl⟩:∃c,B=c+2:=⟨B-2,O⟩;rw[show c+2-1=c+1 from by omega,Cm,C4];apply Nat.add_le_add_right;rw[a,b,CM];have d:c*lo2<=c*E:=Ar _ O;have e:c*E<=2*d1*E:=Af _ O;grind
theorem Ni(h:EI R V g)(b:q+V*g=R):g=R/V/\q=R%V:=by
 have hg:g*V=V*g:=AC _ _;have a:=h.1;rw[Cm,C4]at a;have c:q<V:=O
 grind[Cw,AV,Cj,Cb]
theorem Nj{P q2 c2:Nat}(h:EI R V g)(c:q+V*g=R+P)(m:q<P)(k:q2+P*c2=q+V)(l:q2<P)(i:c2<=1):1<=g/\g-1=R/V/\q2=R%V:=by
 have d:=h.2;have hg:g*V=V*g:=AC _ _;have j:1<=g:=by
  rcases AF g with a|a
  . rw[a]at c;omega
  . exact a
 have e:V*(g-1)+V=V*g:=by rw[<-Nat.mul_succ];congr 1;omega
 have b:c2=1:=by
  rcases(by omega:c2=0\/c2=1)with a|a
  . subst a;omega
  . exact a
 subst b;have f:q2+V*(g-1)=R:=O
 have n:q2<V:=O
 grind[Cw,AV,Cj,Cb]
def Y2(x y:Nat):Nat:=(x-y)+(y-x)
def D5(H d:Nat)(s:Int)(h l c nb b a:Nat):Prop:=
 (s=1\/s=-1)/\H=nb*l+a*h/\d=c*l+b*h/\(c:Int)*a-nb*b=s/\b<=a/\c+b<=nb+a/\1<=a/\l<=h
def D5.start(h:o<=H):D5 H o 1 H o 1 0 0 1:=
 ⟨Al J,O,O,O,O,O,O,h⟩
theorem D5.step{l nb:Nat}(hs:D5 H o s h l v nb w C)(hl:1<=l):
 D5 H o (-s) l (h%l) w C (v+h/l*w) (nb+h/l*C):=by
 obtain⟨n,c,d,p,a,t,u,x⟩:=hs;have e:=AO h l;have b:1<=h/l:=(CE O).2 O;have y:h%l<l:=AK _ O;generalize h/l=q at *;generalize h%l=r at *;subst e;have g:q*w<=q*C:=Ar q a;have i:w<=q*w:=Cc w b;have j:C<=q*C:=Cc C b;have k:(q-1)*w<=(q-1)*C:=Ar _ a;have m:(q-1)*w+w=q*w:=by
  rw[<-Nat.succ_mul];congr 1;omega
 have f:(q-1)*C+C=q*C:=by
  rw[<-Nat.succ_mul];congr 1;omega
 refine⟨O,by rw[c];grind,by rw[d];grind,?_,O,O,O,O⟩;grind
def D5.small{l nb:Nat}(hs:D5 H o s h l v nb w C)(hl:1<=l):nb+C<=H/\v+w<=o:=by
 obtain⟨e,f,g,i,j,k,m,n⟩:=hs;have a:nb<=nb*l:=Ch nb hl;have b:C<=C*h:=Ch C O;have c:v<=v*l:=Ch v hl;have d:w<=w*h:=Ch w O;omega
def X9(A B b c a nb:Nat):Prop:=
 A=c*Y2 (a*A) (nb*B)+nb*Y2 (b*A) (c*B)/\B=b*Y2 (a*A) (nb*B)+a*Y2 (b*A) (c*B)/\
 Y2 (a*A) (nb*B)<Y2 (b*A) (c*B)/\1<=nb
def KS{x:Nat}(a:0<=z)(h:z=(x:Int)-y\/z=(y:Int)-x):(Y2 x y:Int)=z:=by
 unfold Y2;omega
theorem D5.out{S al be l nb:Nat}(hs:D5 H o s h l v nb w C)(F:A=H*S+al)(G:B=o*S+be)(n:al<S)(p:be<S)
(hl:C<=l)(I:nb+C<=h-l):X9 A B v nb w C:=by
 obtain⟨m,x,y,c,z,D,E,L⟩:=hs;have j:(H:Int)=nb*l+C*h:=by rw[x];push_cast;rfl
 have k:(o:Int)=v*l+w*h:=by rw[y];push_cast;rfl
 have g:(A:Int)=H*S+al:=by rw[F];push_cast;rfl
 have i:(B:Int)=o*S+be:=by rw[G];push_cast;rfl
 have b:s*s=1:=DO
 obtain⟨X,d⟩:∃X:Int,X=s*(v*A-nb*B):=⟨_,J⟩;obtain⟨a,e⟩:∃a:Int,a=-s*(w*A-C*B):=⟨_,J⟩;have x1:X=(h:Int)*S+s*(v*al-nb*be):=by
  have:X=(s*(v*C-nb*w))*h*S+s*(v*al-nb*be):=by rw[d,g,i,j,k];grind
  rw[this,c,b];grind
 have q:a=(l:Int)*S-s*(w*al-C*be):=by
  have:a=(s*(v*C-nb*w))*l*S-s*(w*al-C*be):=by rw[e,g,i,j,k];grind
  rw[this,c,b];grind
 have c1:(w:Int)*al<=C*al:=by exact_mod_cast Af al z
 have c2:(C:Int)*al<C*S:=by exact_mod_cast CD n O
 have c3:(C:Int)*be<C*S:=by exact_mod_cast CD p O
 have c4:(C:Int)*S<=l*S:=by exact_mod_cast Af S hl
 have d1:((v+w:Nat):Int)*al<=(nb+C:Nat)*al:=by exact_mod_cast Af al D
 have r:((nb+C:Nat):Int)*al<(nb+C:Nat)*S:=by exact_mod_cast CD n O
 have t:((nb+C:Nat):Int)*be<(nb+C:Nat)*S:=by exact_mod_cast CD p O
 have f:((nb+C:Nat):Int)*S<=(h-l:Nat)*S:=by exact_mod_cast Af S I
 have u:((h-l:Nat):Int)=h-l:=O
 rw[u]at f;simp only[Int.natCast_add,Int.add_mul,Int.sub_mul]at d1 r t f;have p1:(0:Int)<=C*be:=by exact_mod_cast AH _
 have P:(0:Int)<=w*al:=by exact_mod_cast AH _
 have Q:(0:Int)<=v*al:=by exact_mod_cast AH _
 have R:(0:Int)<=nb*be:=by exact_mod_cast AH _
 have N:0<a:=by
  rw[q];rcases m with rfl|rfl<;>omega
 have M:a<X:=by
  rw[x1,q];rcases m with rfl|rfl<;>omega
 have ex:(Y2 (v*A) (nb*B):Int)=X:=KS O DO;have K:(Y2 (w*A) (C*B):Int)=a:=KS O DO;refine⟨?_,?_,O,E⟩
 . have:(A:Int)=nb*a+C*X:=by
    have:(nb:Int)*a+C*X=(s*(v*C-nb*w))*A:=by rw[d,e];grind
    rw[this,c,b];omega
   grind
 . have:(B:Int)=v*a+w*X:=by
    have:(v:Int)*a+w*X=(s*(v*C-nb*w))*B:=by rw[d,e];grind
    rw[this,c,b];omega
   grind
theorem X9.gcd{A B b c a nb:Nat}(h:X9 A B b c a nb):Nat.gcd (Y2 (b*A) (c*B)) (Y2 (a*A) (nb*B))=Nat.gcd A B:=by
 obtain⟨d,e,_,_⟩:=h;apply Nat.dvd_antisymm
 . grind[Nat.gcd_dvd_left,Nat.gcd_dvd_right,Nat.dvd_gcd,Nat.dvd_add]
 grind[Nat.gcd_dvd_left,Nat.gcd_dvd_right,Y2,Nat.dvd_add,Nat.dvd_sub,Nat.dvd_gcd]
def X9.less{nb:Nat}(h:X9 A B o v w nb)(hp:v≠0)(g:0<B):Y2 (o*A) (v*B)+Y2 (w*A) (nb*B)<A+B:=by
 obtain⟨c,d,e,f⟩:=h;have a:Y2 (w*A) (nb*B)<=v*Y2 (w*A) (nb*B):=Cc _ O;have b:Y2 (o*A) (v*B)<=nb*Y2 (o*A) (v*B):=Cc _ O;omega
