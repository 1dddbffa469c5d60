import Derived.Test.YtcahejkcdcjjgaaGreatDoorV01
set_option linter.all false
set_option maxRecDepth 99999
set_option maxHeartbeats 0
namespace Go.Proofs.YtcahejkcdcjjgaaGreatDoor
def DI:=@Nat.mul_pos
def Br:=@decide_eq_false_iff_not
def Bf:=@decide_eq_true_eq
def val(B:Nat):Ja->Nat
 |[]=>0
 |d::ds=>d+B*val B ds
def DK(B:Nat)(ds:Ja):Prop:=∀d∈ds,d<B
def Em(B:Nat):Nat->Nat->Ja
 |0,_=>[]
 |k+1,n=>if n=0\/B<2 then []else n%B::Em B k (n/B)
def Jb(B n:Nat):Ja:=Em B n n
theorem Lm(B:Nat):∀(k n m:Nat),n<=k->n<=m->Em B k n=Em B m n
 |0,n,m,h,_=>by
  have:n=0:=O
  subst this;cases m with
  |zero=>rfl
  |succ m=>rw[Em,Em,BR (An J)]
 |k+1,n,0,_,h=>by
  grind[Em]
 |k+1,n,m+1,a,b=>by
  rw[Em,Em];by_cases h:n=0\/B<2
  . rw[BR h,BR h]
  . have c:n/B<n:=C2 O O;rw[BL h,BL h,Lm B k (n/B) m O O]
def Jr:Ja->Ja
 |[]=>[]
 |d::ds=>match Jr ds with
  |[]=>if d=0 then []else [d]
  |e::es=>d::e::es
variable{s z:Int}{D a b ds:Ja}{l:List UInt8}{A B C E F R V d d0 d1 g h i j k lo lo2 m n o p q r u u1 v w y:Nat}{c:UInt8}{f:UInt8->Bool}
theorem DK.nil(B:Nat):DK B []:=λ_ h=>by cases h
theorem DK.cons(h:d<B)(k:DK B ds):DK B (d::ds):=λx a=>by
 rcases List.mem_cons.1 a with rfl|a
 . exact h
 . exact k x a
def DK.head(h:DK B (d::ds)):d<B:=h d (Cs ..)
def DK.tail(h:DK B (d::ds)):DK B ds:=λx a=>h x (List.mem_cons_of_mem _ a)
def DK.append(h:DK B a)(k:DK B b):DK B (a++b):=λx c=>by
 rcases Cr.1 c with c|c
 . exact h x c
 . exact k x c
def DK.left(h:DK B (a++b)):DK B a:=λx c=>h x (Cr.2 (An c))
def DK.right(h:DK B (a++b)):DK B b:=λx c=>h x (Cr.2 (Ar c))
theorem GH(B:Nat):val B []=0:=rfl
theorem JS(B d:Nat)(ds:Ja):val B (d::ds)=d+B*val B ds:=rfl
theorem val_append(B:Nat):∀(a b:Ja),val B (a++b)=val B a+B^a.length*val B b
 |[],b=>by simp[val]
 |d::a,b=>by
  simp only[Ao,JS,val_append B a b,Ak,Ca];grind
theorem J1{B:Nat}:∀ {ds:Ja},DK B ds->val B ds<B^ds.length
 |[],_=>by simp[val]
 |d::ds,h=>by
  have b:=h.head;have a:=J1 h.tail;simp only[JS,Ak,Ca];have c:B*val B ds+B<=B*B^ds.length:=by
   rw[<-Nat.mul_succ];exact Aq _ a
  grind
theorem Jw(B:Nat):Jb B 0=[]:=rfl
theorem Y4(b:2<=B)(c:n≠0):Jb B n=n%B::Jb B (n/B):=by
 unfold Jb;obtain⟨m,rfl⟩:∃m,n=m+1:=⟨n-1,O⟩;have a:(m+1)/B<m+1:=C2 O O;grind[Em,Lm]
theorem Jk(b:2<=B)(n:Nat):val B (Jb B n)=n:=by
 induction n using Nat.strongRecOn with
 |ind n c=>
  by_cases a:n=0
  . subst a;rw[Jw];rfl
  grind[Y4,JS,C2,Nat.mod_add_div]
theorem Jj(a:2<=B)(n:Nat):DK B (Jb B n):=by
 induction n using Nat.strongRecOn with
 |ind n b=>
  grind[Jw,DK.nil,Y4,DK.cons,AN,C2]
theorem Jz(a:2<=B):Jb B n=[]↔n=0:=by
 constructor
 . intro h;have:=Jk a n;rw[h]at this;exact this.symm
 . intro h;rw[h,Jw]
theorem YX(h:Jr ds=[]):Jr (d::ds)=if d=0 then []else [d]:=by
 simp only[Jr,h]
theorem XE(h:Jr ds≠[]):Jr (d::ds)=d::Jr ds:=by
 grind[Jr]
theorem Hf(B:Nat):∀(ds:Ja),val B (Jr ds)=val B ds
 |[]=>rfl
 |d::ds=>by
  by_cases h:Jr ds=[]
  . have:=Hf B ds;grind[YX,val]
  . rw[XE h,JS,JS,Hf B ds]
theorem JP{B:Nat}(e:2<=B):∀ {ds:Ja},DK B ds->Jb B (val B ds)=Jr ds
 |[],_=>by rw[GH,Jw];rfl
 |d::ds,h=>by
  have c:=h.head;have k:=JP e h.tail;rw[JS];by_cases j:d+B*val B ds=0
  . have l:d=0:=O
    have i:val B ds=0:=by
     rcases AJ (val B ds)with b|b
     . exact b
     . have:0<B*val B ds:=DI O b
       omega
    grind[Jw,YX]
  . rw[Y4 e j];have f:(d+B*val B ds)%B=d:=by rw[Cn];exact Ce c
    have g:(d+B*val B ds)/B=val B ds:=by
     rw[CB _ _ O,AV c,Cj]
    rw[f,g,k];by_cases a:Jr ds=[]
    . rw[YX a,a];have i:val B ds=0:=by rw[<-Hf B ds,a];rfl
      grind
    . rw[XE a]
def Dy(ds:Ja):Prop:=Jr ds=ds
def J4(a:2<=B)(n:Nat):Dy (Jb B n):=by
 have h:=JP a (Jj a n);rw[Jk a]at h;exact h.symm
theorem YR(a:2<=B)(h:DK B ds)(b:Dy ds):Jb B (val B ds)=ds:=(JP a h).trans b
theorem YS:∀(ds:Ja) {d:Nat},d≠0->Jr (ds++[d])=ds++[d]
 |[],d,h=>by simp[Jr,h]
 |e::ds,d,h=>by
  have a:=YS ds h;rw[Ao,XE (by rw[a];simp),a]
theorem Yi:∀(ds:Ja),Jr (ds++[0])=Jr ds
 |[]=>by simp[Jr]
 |e::ds=>by
  have a:=Yi ds;grind[Jr]
theorem Ln(ds:Ja)(k:Nat)(n:k<=ds.length)(d:∀j,k<=j->j<ds.length->ds[j]?=some 0):Jr (ds.take k)=Jr ds:=by
 obtain⟨m,a⟩:∃m,ds.length=k+m:=⟨ds.length-k,O⟩;induction m generalizing ds with
 |zero=>grind
 |succ m c=>
  have o:ds≠[]:=by intro e;rw[e]at a;simp at a
  have hl:ds=ds.take (k+m)++[0]:=by
   apply List.ext_getElem?;intro i;by_cases l:i<k+m
   . grind
   . grind
  have b:(ds.take (k+m)).length=k+m:=by rw[Af];omega
  have:=c (ds.take (k+m)) O (by
   intro j f g;grind) b
  grind[Yi]
theorem O9(ds:Ja)(k:Nat)(b:k<ds.length)(c:ds[k]?≠some 0)(a:∀j,k<j->j<ds.length->ds[j]?=some 0):Jr ds=ds.take (k+1):=by
 grind[Ln,AP,YS]
def PA(ds:Ja)(a:∀j,j<ds.length->ds[j]?=some 0):Jr ds=[]:=by
 have:=Ln ds 0 O λj _ h=>a j h;rw[<-this];simp[Jr]
def Lo{B:Nat}:∀ {ds:Ja},DK B ds->DK B (Jr ds)
 |[],h=>h
 |d::ds,h=>by
  by_cases a:Jr ds=[]
  . rw[YX a];split
    . exact DK.nil B
    . exact DK.cons h.head (DK.nil B)
  . rw[XE a];exact DK.cons h.head (Lo h.tail)
theorem Xc:∀(ds:Ja),(Jr ds).length<=ds.length
 |[]=>by simp[Jr]
 |d::ds=>by
  have:=Xc ds;grind[Jr]
theorem JE(a:2<=B)(h:n<B^k):(Jb B n).length<=k:=by
 induction k generalizing n with
 |zero=>
  grind[Jw]
 |succ k b=>
  grind[Y4,Nat.div_lt_of_lt_mul]
def Lp(b:2<=B)(h:(Jb B n).length=k+1):B^k<=n:=by
 rcases AD n (B^k)with a|a
 . have:=JE b a;omega
 . exact a
def Yj(a:2<=B)(h:(Jb B m).length<(Jb B n).length):m<n:=by
 have b:m<B^(Jb B m).length:=by
  have:=J1 (Jj a m);rwa[Jk a]at this
 have c:B^((Jb B n).length-1)<=n:=Lp a O;have d:B^(Jb B m).length<=B^((Jb B n).length-1):=Ag O O;omega
def Yy(m n:Nat):Int:=if m<n then -1 else if n<m then 1 else 0
theorem I8(m:Nat):Yy m m=0:=by simp[Yy]
theorem XF(h:m<n):Yy m n=-1:=by simp[Yy,h]
theorem Fu(h:n<m):Yy m n=1:=by
 grind[Yy]
theorem Lq(ds:Ja)(k:Nat)(a:k<ds.length):val B ds=val B (ds.take k)+B^k*(ds[k]?.getD 0+B*val B (ds.drop (k+1))):=by
 grind[AU,AH,val_append,JS]
def DK.take{B:Nat}{ds:Ja}(h:DK B ds)(k:Nat):DK B (ds.take k):=λx a=>h x (CY a)
def DK.drop{B:Nat}{ds:Ja}(h:DK B ds)(k:Nat):DK B (ds.drop k):=λx a=>h x (List.mem_of_mem_drop a)
def DK.get(h:DK B ds)(a:k<ds.length):ds[k]?.getD 0<B:=by
 rw[Am a];exact h _ (List.getElem_mem a)
theorem DK.getD{B:Nat}{ds:Ja}(h:DK B ds)(b:0<B)(k:Nat):ds[k]?.getD 0<B:=by
 rcases AD k ds.length with a|a
 . exact h.get a
 grind
theorem I9(e:DK B a)(hl:a.length=b.length)(k:Nat)(g:k<a.length)(f:a.drop (k+1)=b.drop (k+1))(h:a[k]?.getD 0<b[k]?.getD 0):val B a<val B b:=by
 rw[Lq a k g,Lq b k O,<-f];have c:=J1 (e.take k);have d:(a.take k).length=k:=by rw[Af];omega
 rw[d]at c;have i:B^k*(a[k]?.getD 0+B*val B (a.drop (k+1)))+B^k<=B^k*(b[k]?.getD 0+B*val B (a.drop (k+1))):=by
  rw[<-Nat.mul_succ];exact Aq _ O
 omega
theorem Lr(hl:a.length=b.length)(k:Nat)(d:k<a.length)(c:a.drop (k+1)=b.drop (k+1))(h:a[k]?.getD 0=b[k]?.getD 0):a.drop k=b.drop k:=by
 grind[AH]
theorem Yc(c:2<=B)(d:DK B a)(e:DK B b)(f:Dy a)(g:Dy b)(h:a.length<b.length):val B a<val B b:=by
 apply Yj c;grind[YR]
theorem Jm(B:Nat)(ds:Ja)(k:Nat):val B (ds.take (k+1))=val B (ds.take k)+B^k*ds[k]?.getD 0:=by
 grind[AP,val_append,val,Ac]
theorem J8(B:Nat)(ds:Ja)(d:Nat):val B (ds++[d])=val B ds+B^ds.length*d:=by
 rw[val_append];simp[val]
theorem Jx(c:2<=B)(h:DK B ds)(hp:ds=[]\/B^(ds.length-1)<=val B ds):Dy ds:=by
 rcases hp with rfl|hp
 . rfl
 . have a:=Xc ds;rcases AD (Jr ds).length ds.length with g|e
   . have b:=J1 (Lo h);rw[Hf]at b;have f:B^(Jr ds).length<=B^(ds.length-1):=Ag O O;omega
   . have hl:(Jr ds).length=ds.length:=O
     clear a e hp h c;unfold Dy;induction ds with
     |nil=>rfl
     |cons d ds i=>
      grind[Jr]
theorem PB(a:Ja)(c s A:Nat)(h:val B a+B^a.length*c=A):val B (a++[(c+s)%B])+B^(a.length+1)*((c+s)/B)=A+B^a.length*s:=by
 grind[J8,Nat.mod_add_div]
def YE(a:2<=B)(h:(Jb B n).length=k)(b:k≠0):B^(k-1)<=n:=Lp a O
theorem PC(b:2<=B){a:Ja}(d:DK B a)(e:val B a=m+n)
(hl:a.length<=max (Jb B m).length (Jb B n).length\/B^(a.length-1)<=val B a)(hle:max (Jb B m).length (Jb B n).length<=a.length):a=Jb B (m+n):=by
 rw[<-e];refine(YR b d (Jx b d ?_)).symm;by_cases c:a.length=0
 . grind
 . right
   rcases hl with hl|hl
   . have f:a.length=max (Jb B m).length (Jb B n).length:=O
     rcases Nat.le_total (Jb B m).length (Jb B n).length with h|h
     . have:=YE b (n:=n) (k:=a.length) O c;omega
     . have:=YE b (n:=m) (k:=a.length) O c;omega
   . exact hl
def Dz(d:Nat):UInt8:=UInt8.ofNat (48+d)
def Dp(ds:Ja):List UInt8:=(ds.map Dz).reverse
def YP(n:Nat):List UInt8:=if n=0 then [48]else Dp (Jb 10 n)
def YD(z:Int):List UInt8:=if z<0 then 45::YP z.natAbs else YP z.natAbs
def KA(ds:Ja)(d:Nat):Dp (ds++[d])=Dz d::Dp ds:=by simp[Dp]
theorem Ls(ds:Ja):(Dp ds).length=ds.length:=by simp[Dp]
def Xd(ds:Ja)(i k n:Nat)(D:Ja):Prop:=
 D.length=4*i+k/\DK 10 D/\k<=4/\n=ds[i]?.getD 0/10^k/\val 10 D+10^(4*i+k)*n=val 10000 (ds.take i)+10000^i*ds[i]?.getD 0/\(i+1<ds.length\/k=0\/10^(k-1)<=ds[i]?.getD 0)
def KB(i:Nat):(10:Nat)^(4*i)=10000^i:=by rw[Nat.pow_mul]
def Xd.start(hl:D.length=4*i)(a:DK 10 D)(b:val 10 D=val 10000 (ds.take i)):Xd ds i 0 (ds[i]?.getD 0) D:=by
 refine⟨O,a,O,DJ,?_,Ar (An J)⟩;rw[AX,KB,b]
theorem Xd.step(h:Xd ds i k n D)(j:k<4)(g:0<n\/i+1<ds.length):Xd ds i (k+1) (n/10) (D++[n%10]):=by
 obtain⟨c,a,d,b,e,f⟩:=h;refine⟨by simp;omega,a.append (DK.cons (AN _ O) (DK.nil _)),O,?_,?_,?_⟩
 . rw[b,Nat.div_div_eq_div_mul,<-Ca]
 . grind[J8,Nat.mod_add_div]
 grind[Nat.div_pos_iff]
theorem Xd.next(h:Xd ds i 4 n D)(c:DK 10000 ds):D.length=4*(i+1)/\DK 10 D/\val 10 D=val 10000 (ds.take (i+1)):=by
 obtain⟨e,f,g,a,j,k⟩:=h;have b:=c.getD O i;have d:n=0:=by rw[a];exact AV (by simpa using b)
 grind[Jm]
def Xd.last(h:Xd ds i k 0 D)(r:i+1=ds.length):D.length<=4*ds.length/\DK 10 D/\val 10 D=val 10000 ds/\(val 10000 ds≠0->Dy ds->D=Jb 10 (val 10000 ds)):=by
 obtain⟨g,b,q,j,l,a⟩:=h;have e:val 10 D=val 10000 ds:=by
  have:=Jm 10000 ds i;rw[Ac O]at this;rw[this,<-l];simp
 refine⟨O,b,e,λt p=>?_⟩;rw[<-e];refine(YR O b (Jx O b ?_)).symm;have u:ds[i]?.getD 0≠0:=by
  intro c;have m:ds=ds.take i++[0]:=by
   conv=>lhs;rw[<-AU i ds,AH (by omega:i<ds.length)]
   rw[AC O];rw[Am O]at c;have f:ds[i]=0:=c;rw[f]
  have n:(Jr ds).length<=i:=by
   rw[m,Yi];have:=Xc (ds.take i);rw[Af]at this;omega
  rw[p]at n;omega
 right
 rw[g,e];have s:k≠0:=by
  intro o;subst o;simp at j;omega
 rcases a with a|a|a
 . omega
 . omega
 . have:=Jm 10000 ds i;rw[Ac O]at this;rw[this];have d:(10:Nat)^(4*i+k-1)=10000^i*10^(k-1):=by
    rw[<-KB,<-CC];congr 1;omega
   rw[d];have:=Aq (10000^i) a;omega
theorem Hg(h:n≠0):YP n=Dp (Jb 10 n):=by simp[YP,h]
def DS(c:UInt8):Bool:=decide (48<=c.toNat)&&decide (c.toNat<=57)
def Dg(l:List UInt8):Ja:=(l.map λc=>c.toNat-48).reverse
def num(l:List UInt8):Nat:=val 10 (Dg l)
def JH(l:List UInt8):List UInt8:=if l.head?=some 45 then l.tail else l
def good(l:List UInt8):Bool:=decide (l.length<=2000) && !(JH l).isEmpty&&(!decide ((JH l).head?=some 48) || decide (l=[48]))&&(JH l).all DS
def Yz(l:List UInt8):Int:=if l.head?=some 45 then -(num (JH l):Int)else num (JH l)
theorem Yl(h:DS c=true):48<=c.toNat/\c.toNat<=57:=by simpa[DS]using h
theorem Xw(h:d<10):(Dz d).toNat=48+d:=by
 unfold Dz;rw[UInt8.toNat_ofNat'];omega
theorem PD(h:DS c=true):Dz (c.toNat-48)=c:=by
 grind[Yl,CV,Xw]
def PE(l:List UInt8)(c:UInt8):Dg (l++[c])=(c.toNat-48)::Dg l:=by simp[Dg]
theorem KC(l:List UInt8)(c:UInt8):num (l++[c])=(c.toNat-48)+10*num l:=by rw[num,PE,JS];rfl
def PF(a b:List UInt8):Dg (a++b)=Dg b++Dg a:=by simp[Dg]
theorem X0(l:List UInt8):(Dg l).length=l.length:=by simp[Dg]
theorem Xx(a b:List UInt8):num (a++b)=num b+10^b.length*num a:=by rw[num,PF,val_append,X0];rfl
theorem Hh(h:l.all DS=true):DK 10 (Dg l):=by
 intro d a;grind[Dg,Yl]
theorem PG(h:l.all DS=true):Dp (Dg l)=l:=by
 simp only[Dp,Dg,List.map_reverse,List.reverse_reverse,List.map_map];conv=>rhs;rw[<-List.map_id l]
 grind[Co,PD]
theorem PH(b:DS c=true)(a:c≠48):Dy (Dg (c::l)):=by
 have e:Dg (c::l)=Dg l++[c.toNat-48]:=by simp[Dg]
 rw[e];refine YS _ ?_;have:=Yl b;intro h;apply a;apply CV.1;grind
theorem KD(h:(c::l).all DS=true)(a:c≠48):YP (num (c::l))=c::l/\num (c::l)≠0:=by
 grind[YR,Hh,PH,num,Jw,X0,Hg,PG]
theorem Lt(h:good l=true):YD (Yz l)=l:=by
 simp only[good,AL,Bf,Bool.or_eq_true,Cp,Br]at h;obtain⟨⟨⟨_,j⟩,f⟩,a⟩:=h;cases e:JH l with
 |nil=>grind
 |cons c t=>
  rw[e]at f a;by_cases b:c=48
  . grind[Yz,JH,YD,YP,num,Dg,val]
  . obtain⟨g,i⟩:=KD a b;by_cases d:l.head?=some 45
    . have hl:l=45::c::t:=by
       cases l with
       |nil=>simp at d
       |cons x k=>
        grind[JH]
      grind[Yz,YD]
    grind[JH,Yz,YD]
def PI(h:DK 10 ds):(Dp ds).all DS=true:=by
 rw[Az];intro c a;simp only[Dp,List.mem_reverse,List.mem_map]at a;obtain⟨d,b,rfl⟩:=a;have:=h d b;simp[DS,Xw this];omega
def PJ(h:DK 10 ds):num (Dp ds)=val 10 ds:=by
 have e:Dg (Dp ds)=ds:=by
  simp only[Dp,Dg,List.map_reverse,List.reverse_reverse,List.map_map];conv=>rhs;rw[<-List.map_id ds]
  apply Co;intro d a;have:=h d a;simp[Xw this]
 rw[num,e]
theorem Hi(j:n≠0):∃c t,YP n=c::t/\c≠48/\c≠45/\(c::t).all DS=true/\num (c::t)=n:=by
 have a:=Jj (B:=10) O n;have k:=J4 (B:=10) O n;have q:=Jk (B:=10) O n;have m:Jb 10 n≠[]:=by rw[Ne,Jz O];exact j
 have f:=PI a;have b:=PJ a;have e:YP n=Dp (Jb 10 n):=Hg j;rw[q]at b;obtain⟨ds,d,p⟩:∃ds d,Jb 10 n=ds++[d]:=⟨_,_,(List.dropLast_concat_getLast m).symm⟩;rw[p]at f b e k a;rw[KA]at f b e;have r:d≠0:=by
  intro o;subst o;have g:(Jr (ds++[0])).length<=ds.length:=by rw[Yi];exact Xc ds
  rw[k]at g;simp at g;omega
 have l:d<10:=a d DJ;have i:=Xw l;refine⟨Dz d,Dp ds,e,?_,?_,f,b⟩
 . intro h;rw[h]at i;grind
 . intro h;rw[h]at i;grind
theorem PK(h:(YD z).length<=2000):good (YD z)=true/\Yz (YD z)=z:=by
 by_cases a:z.natAbs=0
 . have:z=0:=O
   subst this;simp[YD,YP,good,Yz,JH,num,Dg,val,DS]
 . obtain⟨c,t,e,d,b,f,g⟩:=Hi a;grind[YD,good,JH,Yz]
theorem PL(a:10<=B):(Jb B n).length<=(Jb 10 n).length:=by
 refine JE O ?_;have h:=J1 (Jj (B:=10) O n);grind[Jk,Al,CM]
theorem PM(h:good l=true)(a:10<=B):(Jb B (Yz l).natAbs).length<=2000:=by
 grind[Lt,good,PL,Jw,Hg,Ls,YD]
def YN(f:UInt8->Bool)(l:List UInt8)(i:Nat):Nat:=i+((l.drop i).takeWhile f).length
def DL(l:List UInt8)(i:Nat):Nat:=YN (·==32) l i
def Dq(l:List UInt8)(i:Nat):Nat:=YN DS l i
theorem PN(d:n<=l.length)(a:∀k (h:k<n),f l[k]=true)(e:∀h:n<l.length,f l[n]=false):(l.takeWhile f).length=n:=by
 induction l generalizing n with
 |nil=>simp at d ⊢;omega
 |cons c t g=>
  cases n with
  |zero=>
   grind[List.takeWhile_cons_of_neg]
  |succ n=>
   have:=a 0 O;simp at this;rw[List.takeWhile_cons_of_pos this,Ak,g (n:=n) (by simpa using d) (λk b=>a (k+1) O) λb=>e (by simpa using b)]
theorem Hj(d:i<=j)(e:j<=l.length)(b:∀k (h:k<l.length),i<=k->k<j->f l[k]=true)(c:∀h:j<l.length,f l[j]=false):YN f l i=j:=by
 unfold YN;rw[PN (n:=j-i) DX]
 . omega
 . intro k a;grind
 . intro a;grind
theorem X1(f:UInt8->Bool)(l:List UInt8):(l.takeWhile f).length<=l.length/\(∀k (h:k<l.length),k<(l.takeWhile f).length->f l[k]=true)/\∀h:(l.takeWhile f).length<l.length,f (l[(l.takeWhile f).length]'h)=false:=by
 induction l with
 |nil=>simp
 |cons c t b=>
  by_cases a:f c=true
  . grind[List.takeWhile_cons_of_pos]
  grind[List.takeWhile_cons_of_neg]
def KE(f:UInt8->Bool)(l:List UInt8)(i:Nat):i<=YN f l i:=Nat.le_add_right _ _
theorem KF(a:i<=l.length):YN f l i<=l.length:=by
 grind[X1,YN]
theorem PO(b:i<=k)(a:k<YN f l i)(h:k<l.length):f l[k]=true:=by
 have:=(X1 f (l.drop i)).2.1 (k-i) DX (by unfold YN at a;omega);grind
theorem KG(h:YN f l i<l.length):f (l[YN f l i]'h)=false:=by
 grind[YN,X1]
def PP(f:UInt8->Bool)(l:List UInt8)(i:Nat):YN f l (YN f l i)=YN f l i:=by
 rcases AD (YN f l i) l.length with h|h
 . exact Hj (Aa _) O (λk _ b c=>by omega) λa=>KG a
 . unfold YN;rw[show i+((l.drop i).takeWhile f).length=YN f l i from J,AC h];rfl
def JT(l:List UInt8)(j:Nat)(c:UInt8):Bool:=l[j]?==some c
abbrev Rd(α:Type):=EStateM.Result Nat Nat α
def JL(l:List UInt8)(i:Nat):Rd (List UInt8 × Nat):=
 if Dq l (DL l i)=DL l i then .error 2 (DL l i)
 else if 12<Dq l (DL l i)-DL l i then .error 3 (DL l i)
 else .ok (((l.drop (DL l i)).take (Dq l (DL l i)-DL l i)),DL l i) (Dq l (DL l i))
def J9(l:List UInt8)(i:Nat):Rd Rat:=
 match JL l i with
 |.error e p=>.error e p
 |.ok (ds,_) k=>
  if JT l (DL l k) 47 then
   match JL l (DL l k+1)with
   |.error e p=>.error e p
   |.ok (a,p) m=>if num a=0 then .error 4 p else .ok (Rat.divInt (num ds) (num a)) m
  else .ok ((num ds:Int):Rat) (DL l k)
def Dv(l:List UInt8)(i:Nat):Rd Nat:=
 if JT l (DL l i) 94 then
  match JL l (DL l i+1)with
  |.error e p=>.error e p
  |.ok (ds,p) k=>if 8<num ds then .error 3 p else .ok (num ds) k
 else .ok 1 (DL l i)
def EU(l:List UInt8)(j:Nat):Bool:=(l[j]?.map DS).getD false
def JZ(l:List UInt8)(i:Nat):Rd (Rat × Nat):=
 if EU l (DL l i)then
  match J9 l (DL l i)with
  |.error e p=>.error e p
  |.ok c k=>
   if JT l (DL l k) 120 then
    match Dv l (DL l k+1)with
    |.error e p=>.error e p
    |.ok n m=>.ok (c,n) m
   else .ok (c,0) (DL l k)
 else if JT l (DL l i) 120 then
  match Dv l (DL l i+1)with
  |.error e p=>.error e p
  |.ok n m=>.ok (1,n) m
 else .error 2 (DL l i)
def Dx(l:List UInt8):Nat->Bool->Nat->U->Rd U
 |0,_,i,_=>.error 0 i
 |f+1,b,i,s=>
  match JZ l i with
  |.error e p=>.error e p
  |.ok (c,n) k=>
   let a:=s.set n (if b then cf s n-c else cf s n+c)
   if JT l (DL l k) 43 then Dx l f false (DL l k+1) a
   else if JT l (DL l k) 45 then Dx l f true (DL l k+1) a
   else if DL l k=l.length then .ok a (DL l k)
   else .error 2 (DL l k)
def JU(l:List UInt8):U × Nat × Nat:=
 if 300<l.length then([],1,0)
 else
  match (if JT l (DL l 0) 45 then Dx l (l.length+1) true (DL l 0+1) (List.replicate 9 0)else Dx l (l.length+1) false (DL l 0) (List.replicate 9 0))with
  |.error e p=>([],e,p)
  |.ok s _=>(Jf s,0,0)
def FZ{ds:List UInt8}(e:i<=l.length)(h:JL l i=.ok (ds,p) k):p=DL l i/\k=Dq l p/\i<=p/\p<k/\k<=l.length/\k-p<=12/\ds=(l.drop p).take (k-p)/\ds.length=k-p/\ds.all DS=true:=by
 unfold JL at h;split at h
 . cases h
 . split at h
   . cases h
   . rename_i j m;simp only[EStateM.Result.ok.injEq,Prod.mk.injEq]at h;obtain⟨⟨rfl,rfl⟩,rfl⟩:=h;have hs:DL l i<=l.length:=KF e;have o:DL l i<=Dq l (DL l i):=KE _ _ _;have b:Dq l (DL l i)<=l.length:=KF hs;have a:((l.drop (DL l i)).take (Dq l (DL l i)-DL l i)).length=Dq l (DL l i)-DL l i:=by rw[Af,A8];omega
     refine⟨J,J,KE _ _ _,O,b,O,J,a,?_⟩;rw[Az];intro c d;obtain⟨n,g,rfl⟩:=List.mem_iff_getElem.1 d;rw[a]at g;rw[List.getElem_take,List.getElem_drop];exact PO (f:=DS) (i:=DL l i) O (by show _<Dq l (DL l i);omega) O
def KH{ds:List UInt8}(a:i<=l.length)(h:JL l i=.ok (ds,p) k):i<k/\k<=l.length:=by
 have:=FZ a h;omega
theorem J6(h:JT l j c=true):j<l.length:=by
 grind[JT]
theorem Yh(a:i<=l.length):DL l i<=l.length:=KF a
def Fa(l:List UInt8)(i:Nat):i<=DL l i:=KE _ _ _
theorem Lu{c:Rat}(f:i<=l.length)(h:J9 l i=.ok c k):i<k/\k<=l.length:=by
 unfold J9 at h;split at h
 . cases h
 . rename_i ds p g b;have d:=KH f b;have n:=Fa l g;have o:=Yh d.2;split at h
   . rename_i a;have a:=J6 a;split at h
     . cases h
     . rename_i j r m e;have q:=KH O e;grind
   . cases h;omega
theorem Lv(c:i<=l.length)(h:Dv l i=.ok n k):i<=k/\k<=l.length/\n<=8:=by
 unfold Dv at h;have e:=Fa l i;have f:=Yh c;split at h
 . rename_i a;have a:=J6 a;split at h
   . cases h
   . rename_i d j m b;have g:=KH O b;grind
 . cases h;omega
def KI{c:Rat}(j:i<=l.length)(h:JZ l i=.ok (c,n) k):i<k/\k<=l.length/\n<=8:=by
 unfold JZ at h;have q:=Fa l i;have f:=Yh j;split at h
 . split at h
   . cases h
   . rename_i c' o d;have e:=Lu f d;have r:=Fa l o;have s:=Yh e.2;split at h
     . rename_i a;have a:=J6 a;split at h
       . cases h
       . rename_i p m b;have g:=Lv O b;cases h;omega
     . cases h;omega
 . split at h
   . rename_i a;have a:=J6 a;split at h
     . cases h
     . rename_i p m b;have g:=Lv O b;cases h;omega
   . cases h
def GI(u u1 d1 d0 q r:Nat):Prop:=
 q*d1+r=u/\(u*4294967296+u1)/(d1*4294967296+d0)<=q/\q<=4294967297/\r<4294967296
theorem Lw(b:2147483648<=d1)(c:d1<4294967296)(a:d0<4294967296)(i:u1<4294967296)(g:u<d1*4294967296+d0):
 GI u u1 d1 d0 (u/d1) (u%d1):=by
 have e:=AQ u d1;have f:u%d1<d1:=AN _ O;have d:d1*(u/d1)=u/d1*d1:=AE _ _;refine⟨O,?_,?_,O⟩
 . apply Ct;rw[Aw O];grind
 . apply Ct;rw[Aw O];omega
theorem Lx(h:GI u u1 d1 d0 q r)(d:0<d1)(c:q*d0<=4294967296*r+u1):q=(u*4294967296+u1)/(d1*4294967296+d0):=by
 obtain⟨a,b,_,_⟩:=h;grind[Nat.le_antisymm,CH]
theorem Ly(h:GI u u1 d1 d0 q r)(j:2147483648<=d1)(l:u1<4294967296)(k:u<d1*4294967296+d0)(a:4294967296<=q\/4294967296*r+u1<q*d0):
 1<=q/\(q-1)*d1+(r+d1)=u/\(u*4294967296+u1)/(d1*4294967296+d0)<=q-1/\q-1<=4294967296:=by
 obtain⟨c,d,f,g⟩:=h;have b:1<=q:=by
  rcases a with a|a
  . omega
  . grind
 have e:(q-1)*d1+d1=q*d1:=by
  conv=>rhs;rw[show q=q-1+1 from by omega,Cm,C4]
 refine⟨b,O,?_,O⟩;apply Ct;rw[Nat.succ_eq_add_one,Nat.sub_add_cancel b,Aw O];rcases a with a|a
 . have i:4294967296*(d1*4294967296+d0)<=q*(d1*4294967296+d0):=Ae _ a;omega
 grind
def Hk(d:q*d1+r=u)(a:(u*4294967296+u1)/(d1*4294967296+d0)<=q)(b:q<=4294967296)(c:d0<4294967296)(f:0<d1)(g:4294967296<=r):q=(u*4294967296+u1)/(d1*4294967296+d0):=by
 apply Nat.le_antisymm _ a;rw[CH O,CN,<-A4];have e:q*d0<=4294967296*d0:=Ae _ b;omega
def Lz{t un0:Nat}(a:0<d):t/d*k+(t%d*k+un0)/d=(t*k+un0)/d/\(t%d*k+un0)%d=(t*k+un0)%d:=by
 have b:=AQ t d;have e:t*k+un0=d*(t/d*k)+(t%d*k+un0):=by
  conv=>lhs;rw[<-b,Cm,A4]
  omega
 rw[e,Nat.mul_add_div a,Nat.mul_add_mod];exact⟨J,J⟩
def PQ{a s:Nat}:(a*2^s)/(y*2^s)=a/y/\(a*2^s)%(y*2^s)=a%y*2^s:=
 ⟨Nat.mul_div_mul_right _ _ (AW s),Nat.mul_mod_mul_right _ _ _⟩
def Hl(B u u1 d1 d0 q r:Nat):Prop:=
 q*d1+r=u/\(u*B+u1)/(d1*B+d0)<=q/\q<B/\r<B
theorem PR(a:0<d1)(f:d1<B)(j:u1<B)(c:u<d1*B):Hl B u u1 d1 d0 (u/d1) (u%d1):=by
 have g:=AQ u d1;have i:u%d1<d1:=AN _ a;have e:d1*(u/d1)=u/d1*d1:=AE _ _;have hp:0<d1*B:=DI a O;refine⟨O,?_,?_,O⟩
 . apply Ct;rw[Aw O,Nat.succ_eq_add_one];have b:(u/d1+1)*(d1*B+d0)=(u/d1*d1+d1)*B+(u/d1+1)*d0:=DX
   rw[b];have d:(u+1)*B<=(u/d1*d1+d1)*B:=Ae _ O;grind
 . rw[Aw a,AE];exact c
def KJ(a:q*d1+r=u)(b:(u*B+u1)/(d1*B+d0)<=q)(d:0<d1*B)(c:q*d0<=r*B+u1):q=(u*B+u1)/(d1*B+d0):=by
 apply Nat.le_antisymm _ b;rw[CH O,CN,<-A4,<-a,Cm];omega
def PS(h:Hl B u u1 d1 d0 q r)(j:0<d1*B)(d:r*B+u1<q*d0):
 1<=q/\(q-1)*d1+(r+d1)=u/\(u*B+u1)/(d1*B+d0)<=q-1/\q-1<B:=by
 obtain⟨c,f,g,i⟩:=h;have b:1<=q:=by
  rcases AJ q with a|a
  . rw[a]at d;omega
  . exact a
 have e:(q-1)*d1+d1=q*d1:=by
  rw[<-Nat.succ_mul];congr 1;omega
 refine⟨b,O,?_,O⟩;apply Ct;rw[Nat.succ_eq_add_one,Nat.sub_add_cancel b,Aw O,CN,<-A4,<-c,Cm];omega
def PT(a:q*d1+r=u)(b:(u*B+u1)/(d1*B+d0)<=q)(f:q<B)(e:d0<B)(c:0<d1*B)(d:B<=r):q=(u*B+u1)/(d1*B+d0):=by
 apply KJ a b c;have g:q*d0<=B*d0:=Ae _ O;have i:B*d0<=B*B:=Aq _ O;have j:B*B<=r*B:=Ae _ d;omega
def Eo(R V g:Nat):Prop:=R<(g+1)*V/\g*V<=R+V
theorem PU{T:Nat}(l:R=T*E+lo)(a:V=o*E+lo2)(j:lo<E)(k:lo2<E)(p:T/o<=o)(d:0<o):Eo R V (T/o):=by
 have m:=AQ T o;have n:=AN T d;generalize T/o=g at *;generalize T%o=t at *;have b:(T+1)*E<=(o*g+o)*E:=Ae _ O;have e:(g+1)*V=(o*g+o)*E+(g+1)*lo2:=by rw[a];grind
 have f:g*lo2<=g*E:=Aq _ O;have c:(o*g+g)*E<=(T+o)*E:=Ae _ O;have i:g*V=o*g*E+g*lo2:=by rw[a];grind
 rw[Cm]at b c;refine⟨?_,?_⟩
 . omega
 grind
theorem PV(a:R=d1*(B*E)+lo)(b:V=d1*E+lo2)(f:lo2<E)(j:B<=2*d1)(i:R<V*B)(g:2<=B):Eo R V (B-1):=by
 refine⟨DX,?_⟩;obtain⟨c,rfl⟩:∃c,B=c+2:=⟨B-2,O⟩;rw[show c+2-1=c+1 from by omega,Cm,C4];apply Nat.add_le_add_right;rw[a,b,CN];have d:c*lo2<=c*E:=Aq _ O;have e:c*E<=2*d1*E:=Ae _ O;grind
theorem PW(h:Eo R V g)(b:q+V*g=R):g=R/V/\q=R%V:=by
 have hg:g*V=V*g:=AE _ _;have a:=h.1;rw[Cm,C4]at a;have c:q<V:=O
 grind[CB,AV,Cn,Ce]
theorem PX{P q2 c2:Nat}(h:Eo R V g)(c:q+V*g=R+P)(m:q<P)(k:q2+P*c2=q+V)(l:q2<P)(i:c2<=1):1<=g/\g-1=R/V/\q2=R%V:=by
 have d:=h.2;have hg:g*V=V*g:=AE _ _;have j:1<=g:=by
  rcases AJ g with a|a
  . rw[a]at c;omega
  . exact a
 have e:V*(g-1)+V=V*g:=by rw[<-Nat.mul_succ];congr 1;omega
 have b:c2=1:=by
  rcases(by omega:c2=0\/c2=1)with a|a
  . subst a;omega
  . exact a
 subst b;have f:q2+V*(g-1)=R:=O
 have n:q2<V:=O
 grind[CB,AV,Cn,Ce]
def Xq(x y:Nat):Nat:=(x-y)+(y-x)
def EW(d e:Nat)(s:Int)(h l c nb b a:Nat):Prop:=
 (s=1\/s=-1)/\d=nb*l+a*h/\e=c*l+b*h/\(c:Int)*a-nb*b=s/\b<=a/\c+b<=nb+a/\1<=a/\l<=h
def EW.start(h:v<=o):EW o v 1 o v 1 0 0 1:=
 ⟨An J,O,O,O,O,O,O,h⟩
theorem EW.step{l nb:Nat}(hs:EW o v s h l w nb C F)(hl:1<=l):
 EW o v (-s) l (h%l) C F (w+h/l*C) (nb+h/l*F):=by
 obtain⟨n,c,d,p,a,t,u,x⟩:=hs;have e:=AQ h l;have b:1<=h/l:=(CH O).2 O;have y:h%l<l:=AN _ O;generalize h/l=q at *;generalize h%l=r at *;subst e;have g:q*C<=q*F:=Aq q a;have i:C<=q*C:=Cf C b;have j:F<=q*F:=Cf F b;have k:(q-1)*C<=(q-1)*F:=Aq _ a;have m:(q-1)*C+C=q*C:=by
  rw[<-Nat.succ_mul];congr 1;omega
 have f:(q-1)*F+F=q*F:=by
  rw[<-Nat.succ_mul];congr 1;omega
 refine⟨O,by rw[c];grind,by rw[d];grind,?_,O,O,O,O⟩;grind
def EW.small{l nb:Nat}(hs:EW o v s h l w nb C F)(hl:1<=l):nb+F<=o/\w+C<=v:=by
 obtain⟨e,f,g,i,j,k,m,n⟩:=hs;have a:nb<=nb*l:=Ck nb hl;have b:F<=F*h:=Ck F O;have c:w<=w*l:=Ck w hl;have d:C<=C*h:=Ck C O;omega
def Ev(A B b c a nb:Nat):Prop:=
 A=c*Xq (a*A) (nb*B)+nb*Xq (b*A) (c*B)/\B=b*Xq (a*A) (nb*B)+a*Xq (b*A) (c*B)/\
 Xq (a*A) (nb*B)<Xq (b*A) (c*B)/\1<=nb
def L0{x:Nat}(a:0<=z)(h:z=(x:Int)-y\/z=(y:Int)-x):(Xq x y:Int)=z:=by
 unfold Xq;omega
theorem EW.out{S al be l nb:Nat}(hs:EW o v s h l w nb C F)(G:A=o*S+al)(H:B=v*S+be)(n:al<S)(p:be<S)
(hl:F<=l)(I:nb+F<=h-l):Ev A B w nb C F:=by
 obtain⟨m,x,y,c,z,D,E,L⟩:=hs;have j:(o:Int)=nb*l+F*h:=by rw[x];push_cast;rfl
 have k:(v:Int)=w*l+C*h:=by rw[y];push_cast;rfl
 have g:(A:Int)=o*S+al:=by rw[G];push_cast;rfl
 have i:(B:Int)=v*S+be:=by rw[H];push_cast;rfl
 have b:s*s=1:=DX
 obtain⟨X,d⟩:∃X:Int,X=s*(w*A-nb*B):=⟨_,J⟩;obtain⟨a,e⟩:∃a:Int,a=-s*(C*A-F*B):=⟨_,J⟩;have x1:X=(h:Int)*S+s*(w*al-nb*be):=by
  have:X=(s*(w*F-nb*C))*h*S+s*(w*al-nb*be):=by rw[d,g,i,j,k];grind
  rw[this,c,b];grind
 have q:a=(l:Int)*S-s*(C*al-F*be):=by
  have:a=(s*(w*F-nb*C))*l*S-s*(C*al-F*be):=by rw[e,g,i,j,k];grind
  rw[this,c,b];grind
 have c1:(C:Int)*al<=F*al:=by exact_mod_cast Ae al z
 have c2:(F:Int)*al<F*S:=by exact_mod_cast CG n O
 have c3:(F:Int)*be<F*S:=by exact_mod_cast CG p O
 have c4:(F:Int)*S<=l*S:=by exact_mod_cast Ae S hl
 have d1:((w+C:Nat):Int)*al<=(nb+F:Nat)*al:=by exact_mod_cast Ae al D
 have r:((nb+F:Nat):Int)*al<(nb+F:Nat)*S:=by exact_mod_cast CG n O
 have t:((nb+F:Nat):Int)*be<(nb+F:Nat)*S:=by exact_mod_cast CG p O
 have f:((nb+F:Nat):Int)*S<=(h-l:Nat)*S:=by exact_mod_cast Ae S I
 have u:((h-l:Nat):Int)=h-l:=O
 rw[u]at f;simp only[Int.natCast_add,Int.add_mul,Int.sub_mul]at d1 r t f;have p1:(0:Int)<=F*be:=by exact_mod_cast AB _
 have P:(0:Int)<=C*al:=by exact_mod_cast AB _
 have Q:(0:Int)<=w*al:=by exact_mod_cast AB _
 have R:(0:Int)<=nb*be:=by exact_mod_cast AB _
 have N:0<a:=by
  rw[q];rcases m with rfl|rfl<;>omega
 have M:a<X:=by
  rw[x1,q];rcases m with rfl|rfl<;>omega
 have ex:(Xq (w*A) (nb*B):Int)=X:=L0 O DX;have K:(Xq (C*A) (F*B):Int)=a:=L0 O DX;refine⟨?_,?_,O,E⟩
 . have:(A:Int)=nb*a+F*X:=by
    have:(nb:Int)*a+F*X=(s*(w*F-nb*C))*A:=by rw[d,e];grind
    rw[this,c,b];omega
   grind
 . have:(B:Int)=w*a+C*X:=by
    have:(w:Int)*a+C*X=(s*(w*F-nb*C))*B:=by rw[d,e];grind
    rw[this,c,b];omega
   grind
theorem Ev.gcd{A B b c a nb:Nat}(h:Ev A B b c a nb):Nat.gcd (Xq (b*A) (c*B)) (Xq (a*A) (nb*B))=Nat.gcd A B:=by
 obtain⟨d,e,_,_⟩:=h;apply Nat.dvd_antisymm
 . grind[Nat.gcd_dvd_left,Nat.gcd_dvd_right,Nat.dvd_gcd,Nat.dvd_add]
 grind[Nat.gcd_dvd_left,Nat.gcd_dvd_right,Xq,Nat.dvd_add,Nat.dvd_sub,Nat.dvd_gcd]
def Ev.less{nb:Nat}(h:Ev A B o v w nb)(hp:v≠0)(g:0<B):Xq (o*A) (v*B)+Xq (w*A) (nb*B)<A+B:=by
 obtain⟨c,d,e,f⟩:=h;have a:Xq (w*A) (nb*B)<=v*Xq (w*A) (nb*B):=Cf _ O;have b:Xq (o*A) (v*B)<=nb*Xq (o*A) (v*B):=Cf _ O;omega
