import Derived.Test.YtcahodpphikgnaaGreatDoorV00
set_option linter.all false
set_option maxRecDepth 99999
set_option maxHeartbeats 0
namespace Go.Proofs.YtcahodpphikgnaaGreatDoor
def Bq:=@Nat.mul_pos
def Bc:=@decide_eq_false_iff_not
def BZ:=@if_neg
def BW:=@if_pos
def BS:=@decide_eq_true_eq
def val(B:Nat):Ja->Nat
 |[]=>0
 |d::ds=>d+B*val B ds
def Bs(B:Nat)(ds:Ja):Prop:=∀d∈ds,d<B
def Da(B:Nat):Nat->Nat->Ja
 |0,_=>[]
 |k+1,n=>if n=0\/B<2 then []else n%B::Da B k (n/B)
def Jb(B n:Nat):Ja:=Da B n n
theorem GN(B:Nat):∀(k n m:Nat),n<=k->n<=m->Da B k n=Da B m n
 |0,n,m,h,_=>by
  have:n=0:=Y
  subst this;cases m with
  |zero=>rfl
  |succ m=>rw[Da,Da,BW (Ar J)]
 |k+1,n,0,_,h=>by
  grind[Da]
 |k+1,n,m+1,a,b=>by
  rw[Da,Da];by_cases h:n=0\/B<2
  . rw[BW h,BW h]
  . have c:n/B<n:=CP Y Y;rw[BZ h,BZ h,GN B k (n/B) m Y Y]
def Jl:Ja->Ja
 |[]=>[]
 |d::ds=>match Jl ds with
  |[]=>if d=0 then []else [d]
  |e::es=>d::e::es
variable{s z:Int}{D a b ds:Ja}{l:List UInt8}{B E V d d0 d1 f g h i j k lo lo2 m n o p q r u u1 v y:Nat}{c:UInt8}
theorem Bs.nil(B:Nat):Bs B []:=λ_ h=>by cases h
theorem Bs.cons(h:d<B)(k:Bs B ds):Bs B (d::ds):=λx a=>by
 rcases List.mem_cons.1 a with rfl|a
 . exact h
 . exact k x a
def Bs.head(h:Bs B (d::ds)):d<B:=h d (CD ..)
def Bs.tail(h:Bs B (d::ds)):Bs B ds:=λx a=>h x (List.mem_cons_of_mem _ a)
def Bs.append(h:Bs B a)(k:Bs B b):Bs B (a++b):=λx c=>by
 rcases Ct.1 c with c|c
 . exact h x c
 . exact k x c
theorem D6(B:Nat):val B []=0:=rfl
theorem JF(B d:Nat)(ds:Ja):val B (d::ds)=d+B*val B ds:=rfl
theorem val_append(B:Nat):∀(a b:Ja),val B (a++b)=val B a+B^a.length*val B b
 |[],b=>by simp[val]
 |d::a,b=>by
  simp only[AJ,JF,val_append B a b,Ap,AV];grind
theorem JL{B:Nat}:∀ {ds:Ja},Bs B ds->val B ds<B^ds.length
 |[],_=>by simp[val]
 |d::ds,h=>by
  have b:=h.head;have a:=JL h.tail;simp only[JF,Ap,AV];have c:B*val B ds+B<=B*B^ds.length:=by
   rw[<-Nat.mul_succ];exact Ai _ a
  grind
theorem Jq(B:Nat):Jb B 0=[]:=rfl
theorem Ys(b:2<=B)(c:n≠0):Jb B n=n%B::Jb B (n/B):=by
 unfold Jb;obtain⟨m,rfl⟩:∃m,n=m+1:=⟨n-1,Y⟩;have a:(m+1)/B<m+1:=CP Y Y;grind[Da,GN]
theorem Je(b:2<=B)(n:Nat):val B (Jb B n)=n:=by
 induction n using Nat.strongRecOn with
 |ind n c=>
  by_cases a:n=0
  . subst a;rw[Jq];rfl
  grind[Ys,JF,CP,Nat.mod_add_div]
theorem Jf(a:2<=B)(n:Nat):Bs B (Jb B n):=by
 induction n using Nat.strongRecOn with
 |ind n b=>
  grind[Jq,Bs.nil,Ys,Bs.cons,At,CP]
theorem Js(a:2<=B):Jb B n=[]↔n=0:=by
 constructor
 . intro h;have:=Je a n;rw[h]at this;exact this.symm
 . intro h;rw[h,Jq]
theorem Yn(h:Jl ds=[]):Jl (d::ds)=if d=0 then []else [d]:=by
 simp only[Jl,h]
theorem YL(h:Jl ds≠[]):Jl (d::ds)=d::Jl ds:=by
 grind[Jl]
theorem XS(B:Nat):∀(ds:Ja),val B (Jl ds)=val B ds
 |[]=>rfl
 |d::ds=>by
  by_cases h:Jl ds=[]
  . have:=XS B ds;grind[Yn,val]
  . rw[YL h,JF,JF,XS B ds]
theorem JC{B:Nat}(e:2<=B):∀ {ds:Ja},Bs B ds->Jb B (val B ds)=Jl ds
 |[],_=>by rw[D6,Jq];rfl
 |d::ds,h=>by
  have c:=h.head;have k:=JC e h.tail;rw[JF];by_cases j:d+B*val B ds=0
  . have l:d=0:=Y
    have i:val B ds=0:=by
     rcases An (val B ds)with b|b
     . exact b
     . have:0<B*val B ds:=Bq Y b
       omega
    grind[Jq,Yn]
  . rw[Ys e j];have f:(d+B*val B ds)%B=d:=by rw[A6];exact AZ c
    have g:(d+B*val B ds)/B=val B ds:=by
     rw[Cl _ _ Y,AE c,Cc]
    rw[f,g,k];by_cases a:Jl ds=[]
    . rw[Yn a,a];have i:val B ds=0:=by rw[<-XS B ds,a];rfl
      grind
    . rw[YL a]
def DF(ds:Ja):Prop:=Jl ds=ds
def JM(a:2<=B)(n:Nat):DF (Jb B n):=by
 have h:=JC a (Jf a n);rw[Je a]at h;exact h.symm
theorem Yk(a:2<=B)(h:Bs B ds)(b:DF ds):Jb B (val B ds)=ds:=(JC a h).trans b
theorem Yl:∀(ds:Ja) {d:Nat},d≠0->Jl (ds++[d])=ds++[d]
 |[],d,h=>by simp[Jl,h]
 |e::ds,d,h=>by
  have a:=Yl ds h;rw[AJ,YL (by rw[a];simp),a]
theorem JZ:∀(ds:Ja),Jl (ds++[0])=Jl ds
 |[]=>by simp[Jl]
 |e::ds=>by
  have a:=JZ ds;grind[Jl]
theorem GO(ds:Ja)(k:Nat)(g:k<=ds.length)(c:∀j,k<=j->j<ds.length->ds[j]?=some 0):Jl (ds.take k)=Jl ds:=by
 obtain⟨m,l⟩:∃m,ds.length=k+m:=⟨ds.length-k,Y⟩;induction m generalizing ds with
 |zero=>grind
 |succ m b=>
  have hl:ds=ds.take (k+m)++[0]:=by
   apply List.ext_getElem?;intro i;by_cases f:i<k+m
   . grind
   . grind
  have a:(ds.take (k+m)).length=k+m:=by rw[Af];omega
  have:=b (ds.take (k+m)) Y (by
   intro j d e;grind) a
  grind[JZ]
theorem I2(ds:Ja)(k:Nat)(b:k<ds.length)(c:ds[k]?≠some 0)(a:∀j,k<j->j<ds.length->ds[j]?=some 0):Jl ds=ds.take (k+1):=by
 grind[GO,Au,Yl]
def I3(ds:Ja)(a:∀j,j<ds.length->ds[j]?=some 0):Jl ds=[]:=by
 have:=GO ds 0 Y λj _ h=>a j h;rw[<-this];simp[Jl]
def GP{B:Nat}:∀ {ds:Ja},Bs B ds->Bs B (Jl ds)
 |[],h=>h
 |d::ds,h=>by
  by_cases a:Jl ds=[]
  . rw[Yn a];split
    . exact Bs.nil B
    . exact Bs.cons h.head (Bs.nil B)
  . rw[YL a];exact Bs.cons h.head (GP h.tail)
theorem Yw:∀(ds:Ja),(Jl ds).length<=ds.length
 |[]=>by simp[Jl]
 |d::ds=>by
  have:=Yw ds;grind[Jl]
theorem JG(a:2<=B)(h:n<B^k):(Jb B n).length<=k:=by
 induction k generalizing n with
 |zero=>
  grind[Jq]
 |succ k b=>
  grind[Ys,Nat.div_lt_of_lt_mul]
def XA(b:2<=B)(h:(Jb B n).length=k+1):B^k<=n:=by
 rcases As n (B^k)with a|a
 . have:=JG b a;omega
 . exact a
def J0(a:2<=B)(h:(Jb B m).length<(Jb B n).length):m<n:=by
 have b:m<B^(Jb B m).length:=by
  have:=JL (Jf a m);rwa[Je a]at this
 have c:B^((Jb B n).length-1)<=n:=XA a Y;have d:B^(Jb B m).length<=B^((Jb B n).length-1):=Al Y Y;omega
def J6(m n:Nat):Int:=if m<n then -1 else if n<m then 1 else 0
theorem FF(m:Nat):J6 m m=0:=by simp[J6]
theorem YM(h:m<n):J6 m n=-1:=by simp[J6,h]
theorem XT(h:n<m):J6 m n=1:=by
 grind[J6]
theorem GQ(ds:Ja)(k:Nat)(a:k<ds.length):val B ds=val B (ds.take k)+B^k*(ds[k]?.getD 0+B*val B (ds.drop (k+1))):=by
 grind[AC,Az,val_append,JF]
def Bs.take{B:Nat}{ds:Ja}(h:Bs B ds)(k:Nat):Bs B (ds.take k):=λx a=>h x (List.mem_of_mem_take a)
def Bs.drop{B:Nat}{ds:Ja}(h:Bs B ds)(k:Nat):Bs B (ds.drop k):=λx a=>h x (List.mem_of_mem_drop a)
def Bs.get(h:Bs B ds)(a:k<ds.length):ds[k]?.getD 0<B:=by
 rw[Ag a];exact h _ (CJ a)
theorem Bs.getD{B:Nat}{ds:Ja}(h:Bs B ds)(b:0<B)(k:Nat):ds[k]?.getD 0<B:=by
 rcases As k ds.length with a|a
 . exact h.get a
 grind
theorem FG(e:Bs B a)(hl:a.length=b.length)(k:Nat)(g:k<a.length)(f:a.drop (k+1)=b.drop (k+1))(h:a[k]?.getD 0<b[k]?.getD 0):val B a<val B b:=by
 rw[GQ a k g,GQ b k Y,<-f];have c:=JL (e.take k);have d:(a.take k).length=k:=by rw[Af];omega
 rw[d]at c;have i:B^k*(a[k]?.getD 0+B*val B (a.drop (k+1)))+B^k<=B^k*(b[k]?.getD 0+B*val B (a.drop (k+1))):=by
  rw[<-Nat.mul_succ];exact Ai _ Y
 omega
theorem GR(hl:a.length=b.length)(k:Nat)(d:k<a.length)(c:a.drop (k+1)=b.drop (k+1))(h:a[k]?.getD 0=b[k]?.getD 0):a.drop k=b.drop k:=by
 grind[Az]
theorem JV(c:2<=B)(d:Bs B a)(e:Bs B b)(f:DF a)(g:DF b)(h:a.length<b.length):val B a<val B b:=by
 apply J0 c;grind[Yk]
theorem Ji(B:Nat)(ds:Ja)(k:Nat):val B (ds.take (k+1))=val B (ds.take k)+B^k*ds[k]?.getD 0:=by
 grind[Au,val_append,val,Ab]
theorem JP(B:Nat)(ds:Ja)(d:Nat):val B (ds++[d])=val B ds+B^ds.length*d:=by
 rw[val_append];simp[val]
theorem X9(c:2<=B)(h:Bs B ds)(hp:ds=[]\/B^(ds.length-1)<=val B ds):DF ds:=by
 rcases hp with rfl|hp
 . rfl
 . have a:=Yw ds;rcases As (Jl ds).length ds.length with g|e
   . have b:=JL (GP h);rw[XS]at b;have f:B^(Jl ds).length<=B^(ds.length-1):=Al Y Y;omega
   . have hl:(Jl ds).length=ds.length:=Y
     clear a e hp h c;unfold DF;induction ds with
     |nil=>rfl
     |cons d ds i=>
      grind[Jl]
theorem I4(a:Ja)(c s b:Nat)(h:val B a+B^a.length*c=b):val B (a++[(c+s)%B])+B^(a.length+1)*((c+s)/B)=b+B^a.length*s:=by
 grind[JP,Nat.mod_add_div]
def J8(a:2<=B)(h:(Jb B n).length=k)(b:k≠0):B^(k-1)<=n:=XA a Y
theorem I5(b:2<=B){a:Ja}(d:Bs B a)(e:val B a=m+n)
(hl:a.length<=max (Jb B m).length (Jb B n).length\/B^(a.length-1)<=val B a)(hle:max (Jb B m).length (Jb B n).length<=a.length):a=Jb B (m+n):=by
 rw[<-e];refine(Yk b d (X9 b d ?_)).symm;by_cases c:a.length=0
 . grind
 . right
   rcases hl with hl|hl
   . rcases Nat.le_total (Jb B m).length (Jb B n).length with h|h
     . have:=J8 b (n:=n) (k:=a.length) Y c;omega
     . have:=J8 b (n:=m) (k:=a.length) Y c;omega
   . exact hl
def DG(d:Nat):UInt8:=UInt8.ofNat (48+d)
def DA(ds:Ja):List UInt8:=(ds.map DG).reverse
def XE(n:Nat):List UInt8:=if n=0 then [48]else DA (Jb 10 n)
def Yg(z:Int):List UInt8:=if z<0 then 45::XE z.natAbs else XE z.natAbs
def FH(ds:Ja)(d:Nat):DA (ds++[d])=DG d::DA ds:=by simp[DA]
theorem GS(ds:Ja):(DA ds).length=ds.length:=by simp[DA]
def Yx(ds:Ja)(i k n:Nat)(D:Ja):Prop:=
 D.length=4*i+k/\Bs 10 D/\k<=4/\n=ds[i]?.getD 0/10^k/\val 10 D+10^(4*i+k)*n=val 10000 (ds.take i)+10000^i*ds[i]?.getD 0/\(i+1<ds.length\/k=0\/10^(k-1)<=ds[i]?.getD 0)
def FI(i:Nat):(10:Nat)^(4*i)=10000^i:=by rw[Nat.pow_mul]
def Yx.start(hl:D.length=4*i)(a:Bs 10 D)(b:val 10 D=val 10000 (ds.take i)):Yx ds i 0 (ds[i]?.getD 0) D:=by
 refine⟨Y,a,Y,Br,?_,AL (Ar J)⟩;rw[AK,FI,b]
theorem Yx.step(h:Yx ds i k n D)(j:k<4)(g:0<n\/i+1<ds.length):Yx ds i (k+1) (n/10) (D++[n%10]):=by
 obtain⟨c,a,d,b,e,f⟩:=h;refine⟨by simp;omega,a.append (Bs.cons (At _ Y) (Bs.nil _)),Y,?_,?_,?_⟩
 . rw[b,Nat.div_div_eq_div_mul,<-AV]
 . grind[JP,Nat.mod_add_div]
 grind[Nat.div_pos_iff]
theorem Yx.next(h:Yx ds i 4 n D)(c:Bs 10000 ds):D.length=4*(i+1)/\Bs 10 D/\val 10 D=val 10000 (ds.take (i+1)):=by
 obtain⟨e,f,g,a,j,k⟩:=h;have b:=c.getD Y i;have d:n=0:=by rw[a];exact AE (by simpa using b)
 grind[Ji]
def Yx.last(h:Yx ds i k 0 D)(r:i+1=ds.length):D.length<=4*ds.length/\Bs 10 D/\val 10 D=val 10000 ds/\(val 10000 ds≠0->DF ds->D=Jb 10 (val 10000 ds)):=by
 obtain⟨g,b,q,j,l,a⟩:=h;have e:val 10 D=val 10000 ds:=by
  have:=Ji 10000 ds i;rw[Ab Y]at this;rw[this,<-l];simp
 refine⟨Y,b,e,λt p=>?_⟩;rw[<-e];refine(Yk Y b (X9 Y b ?_)).symm;have u:ds[i]?.getD 0≠0:=by
  intro c;have m:ds=ds.take i++[0]:=by
   conv=>lhs;rw[<-AC i ds,Az (by omega:i<ds.length)]
   rw[AH Y];rw[Ag Y]at c;have f:ds[i]=0:=c;rw[f]
  have n:(Jl ds).length<=i:=by
   rw[m,JZ];have:=Yw (ds.take i);rw[Af]at this;omega
  rw[p]at n;omega
 right
 rw[g,e];have s:k≠0:=by
  intro o;subst o;simp at j;omega
 rcases a with a|a|a
 . omega
 . omega
 . have:=Ji 10000 ds i;rw[Ab Y]at this;rw[this];have d:(10:Nat)^(4*i+k-1)=10000^i*10^(k-1):=by
    rw[<-FI,<-Cm];congr 1;omega
   rw[d];have:=Ai (10000^i) a;omega
theorem EY(h:n≠0):XE n=DA (Jb 10 n):=by simp[XE,h]
def B6(c:UInt8):Bool:=decide (48<=c.toNat)&&decide (c.toNat<=57)
def C5(l:List UInt8):Ja:=(l.map λc=>c.toNat-48).reverse
def num(l:List UInt8):Nat:=val 10 (C5 l)
def Jy(l:List UInt8):List UInt8:=if l.head?=some 45 then l.tail else l
def good(l:List UInt8):Bool:=decide (l.length<=2000) && !(Jy l).isEmpty&&(!decide ((Jy l).head?=some 48) || decide (l=[48]))&&(Jy l).all B6
def JW(l:List UInt8):Int:=if l.head?=some 45 then -(num (Jy l):Int)else num (Jy l)
theorem J3(h:B6 c=true):48<=c.toNat/\c.toNat<=57:=by simpa[B6]using h
theorem YG(h:d<10):(DG d).toNat=48+d:=by
 unfold DG;rw[UInt8.toNat_ofNat'];omega
theorem I6(h:B6 c=true):DG (c.toNat-48)=c:=by
 grind[J3,CR,YG]
def I7(l:List UInt8)(c:UInt8):C5 (l++[c])=(c.toNat-48)::C5 l:=by simp[C5]
theorem FJ(l:List UInt8)(c:UInt8):num (l++[c])=(c.toNat-48)+10*num l:=by rw[num,I7,JF];rfl
def I8(a b:List UInt8):C5 (a++b)=C5 b++C5 a:=by simp[C5]
theorem Xr(l:List UInt8):(C5 l).length=l.length:=by simp[C5]
theorem YY(a b:List UInt8):num (a++b)=num b+10^b.length*num a:=by rw[num,I8,val_append,Xr];rfl
theorem FK(h:l.all B6=true):Bs 10 (C5 l):=by
 intro d a;grind[C5,J3]
theorem I9(h:l.all B6=true):DA (C5 l)=l:=by
 simp only[DA,C5,List.map_reverse,List.reverse_reverse,List.map_map];conv=>rhs;rw[<-List.map_id l]
 grind[Cg,I6]
theorem Jx(b:B6 c=true)(a:c≠48):DF (C5 (c::l)):=by
 have e:C5 (c::l)=C5 l++[c.toNat-48]:=by simp[C5]
 rw[e];refine Yl _ ?_;have:=J3 b;intro h;apply a;apply CR.1;grind
theorem FL(h:(c::l).all B6=true)(a:c≠48):XE (num (c::l))=c::l/\num (c::l)≠0:=by
 grind[Yk,FK,Jx,num,Jq,Xr,EY,I9]
theorem FM(h:good l=true):Yg (JW l)=l:=by
 simp only[good,AP,BS,Bool.or_eq_true,A7,Bc]at h;obtain⟨⟨⟨_,j⟩,f⟩,a⟩:=h;cases e:Jy l with
 |nil=>grind
 |cons c t=>
  rw[e]at f a;by_cases b:c=48
  . grind[JW,Jy,Yg,XE,num,C5,val]
  . obtain⟨g,i⟩:=FL a b;by_cases d:l.head?=some 45
    . have hl:l=45::c::t:=by
       cases l with
       |nil=>simp at d
       |cons x k=>
        grind[Jy]
      grind[JW,Yg]
    grind[Jy,JW,Yg]
def KA(h:Bs 10 ds):(DA ds).all B6=true:=by
 rw[AX];intro c a;simp only[DA,List.mem_reverse,List.mem_map]at a;obtain⟨d,b,rfl⟩:=a;have:=h d b;simp[B6,YG this];omega
def KB(h:Bs 10 ds):num (DA ds)=val 10 ds:=by
 have e:C5 (DA ds)=ds:=by
  simp only[DA,C5,List.map_reverse,List.reverse_reverse,List.map_map];conv=>rhs;rw[<-List.map_id ds]
  apply Cg;intro d a;have:=h d a;simp[YG this]
 rw[num,e]
theorem KC(j:n≠0):∃c t,XE n=c::t/\c≠48/\c≠45/\(c::t).all B6=true/\num (c::t)=n:=by
 have a:=Jf (B:=10) Y n;have k:=JM (B:=10) Y n;have q:=Je (B:=10) Y n;have m:Jb 10 n≠[]:=by rw[Ne,Js Y];exact j
 have f:=KA a;have b:=KB a;have e:XE n=DA (Jb 10 n):=EY j;rw[q]at b;obtain⟨ds,d,p⟩:∃ds d,Jb 10 n=ds++[d]:=⟨_,_,(List.dropLast_concat_getLast m).symm⟩;rw[p]at f b e k a;rw[FH]at f b e;have r:d≠0:=by
  intro o;subst o;have g:(Jl (ds++[0])).length<=ds.length:=by rw[JZ];exact Yw ds
  rw[k]at g;simp at g;omega
 have l:d<10:=a d Br;have i:=YG l;refine⟨DG d,DA ds,e,?_,?_,f,b⟩
 . intro h;rw[h]at i;grind
 . intro h;rw[h]at i;grind
theorem KD(h:(Yg z).length<=2000):good (Yg z)=true/\JW (Yg z)=z:=by
 by_cases a:z.natAbs=0
 . have:z=0:=Y
   subst this;simp[Yg,XE,good,JW,Jy,num,C5,val,B6]
 . obtain⟨c,t,e,d,b,f,g⟩:=KC a;grind[Yg,good,Jy,JW]
theorem XF(a:10<=B):(Jb B n).length<=(Jb 10 n).length:=by
 refine JG Y ?_;have h:=JL (Jf (B:=10) Y n);grind[Je,Ao,CA]
theorem KE(h:good l=true)(a:10<=B):(Jb B (JW l).natAbs).length<=2000:=by
 grind[FM,good,XF,Jq,EY,GS,Yg]
def D7(u u1 d1 d0 q r:Nat):Prop:=
 q*d1+r=u/\(u*4294967296+u1)/(d1*4294967296+d0)<=q/\q<=4294967297/\r<4294967296
theorem GT(b:2147483648<=d1)(c:d1<4294967296)(a:d0<4294967296)(i:u1<4294967296)(g:u<d1*4294967296+d0):
 D7 u u1 d1 d0 (u/d1) (u%d1):=by
 have e:=Ay u d1;have f:u%d1<d1:=At _ Y;have d:d1*(u/d1)=u/d1*d1:=Am _ _;refine⟨Y,?_,?_,Y⟩
 . apply Cf;rw[Ah Y];grind
 . apply Cf;rw[Ah Y];omega
theorem GU(h:D7 u u1 d1 d0 q r)(d:0<d1)(c:q*d0<=4294967296*r+u1):q=(u*4294967296+u1)/(d1*4294967296+d0):=by
 obtain⟨a,b,_,_⟩:=h;grind[Nat.le_antisymm,Cs]
theorem GV(h:D7 u u1 d1 d0 q r)(j:2147483648<=d1)(l:u1<4294967296)(k:u<d1*4294967296+d0)(a:4294967296<=q\/4294967296*r+u1<q*d0):
 1<=q/\(q-1)*d1+(r+d1)=u/\(u*4294967296+u1)/(d1*4294967296+d0)<=q-1/\q-1<=4294967296:=by
 obtain⟨c,d,f,g⟩:=h;have b:1<=q:=by
  rcases a with a|a
  . omega
  . grind
 have e:(q-1)*d1+d1=q*d1:=by
  conv=>rhs;rw[show q=q-1+1 from by omega,Ci,CS]
 refine⟨b,Y,?_,Y⟩;apply Cf;rw[Nat.succ_eq_add_one,Nat.sub_add_cancel b,Ah Y];rcases a with a|a
 . have i:4294967296*(d1*4294967296+d0)<=q*(d1*4294967296+d0):=Ae _ a;omega
 grind
def Y4(d:q*d1+r=u)(a:(u*4294967296+u1)/(d1*4294967296+d0)<=q)(b:q<=4294967296)(c:d0<4294967296)(f:0<d1)(g:4294967296<=r):q=(u*4294967296+u1)/(d1*4294967296+d0):=by
 apply Nat.le_antisymm _ a;rw[Cs Y,CB,<-A0];have e:q*d0<=4294967296*d0:=Ae _ b;omega
def GW{t un0:Nat}(a:0<d):t/d*k+(t%d*k+un0)/d=(t*k+un0)/d/\(t%d*k+un0)%d=(t*k+un0)%d:=by
 have b:=Ay t d;have e:t*k+un0=d*(t/d*k)+(t%d*k+un0):=by
  conv=>lhs;rw[<-b,Ci,A0]
  omega
 rw[e,Nat.mul_add_div a,Nat.mul_add_mod];exact⟨J,J⟩
def KF{a s:Nat}:(a*2^s)/(y*2^s)=a/y/\(a*2^s)%(y*2^s)=a%y*2^s:=
 ⟨Nat.mul_div_mul_right _ _ (AG s),Nat.mul_mod_mul_right _ _ _⟩
def EZ(B u u1 d1 d0 q r:Nat):Prop:=
 q*d1+r=u/\(u*B+u1)/(d1*B+d0)<=q/\q<B/\r<B
theorem KG(a:0<d1)(f:d1<B)(j:u1<B)(c:u<d1*B):EZ B u u1 d1 d0 (u/d1) (u%d1):=by
 have g:=Ay u d1;have i:u%d1<d1:=At _ a;have e:d1*(u/d1)=u/d1*d1:=Am _ _;have hp:0<d1*B:=Bq a Y;refine⟨Y,?_,?_,Y⟩
 . apply Cf;rw[Ah Y,Nat.succ_eq_add_one];have b:(u/d1+1)*(d1*B+d0)=(u/d1*d1+d1)*B+(u/d1+1)*d0:=B7
   rw[b];have d:(u+1)*B<=(u/d1*d1+d1)*B:=Ae _ Y;grind
 . rw[Ah a,Am];exact c
def XG(a:q*d1+r=u)(b:(u*B+u1)/(d1*B+d0)<=q)(d:0<d1*B)(c:q*d0<=r*B+u1):q=(u*B+u1)/(d1*B+d0):=by
 apply Nat.le_antisymm _ b;rw[Cs Y,CB,<-A0,<-a,Ci];omega
def KH(h:EZ B u u1 d1 d0 q r)(j:0<d1*B)(d:r*B+u1<q*d0):
 1<=q/\(q-1)*d1+(r+d1)=u/\(u*B+u1)/(d1*B+d0)<=q-1/\q-1<B:=by
 obtain⟨c,f,g,i⟩:=h;have b:1<=q:=by
  rcases An q with a|a
  . rw[a]at d;omega
  . exact a
 have e:(q-1)*d1+d1=q*d1:=by
  rw[<-Nat.succ_mul];congr 1;omega
 refine⟨b,Y,?_,Y⟩;apply Cf;rw[Nat.succ_eq_add_one,Nat.sub_add_cancel b,Ah Y,CB,<-A0,<-c,Ci];omega
def KI(a:q*d1+r=u)(b:(u*B+u1)/(d1*B+d0)<=q)(f:q<B)(e:d0<B)(c:0<d1*B)(d:B<=r):q=(u*B+u1)/(d1*B+d0):=by
 apply XG a b c;have g:q*d0<=B*d0:=Ae _ Y;have i:B*d0<=B*B:=Ai _ Y;have j:B*B<=r*B:=Ae _ d;omega
def Db(a V g:Nat):Prop:=a<(g+1)*V/\g*V<=a+V
theorem KJ{T:Nat}(m:j=T*E+lo)(d:V=f*E+lo2)(k:lo<E)(l:lo2<E)(p:T/f<=f)(c:0<f):Db j V (T/f):=by
 have n:=Ay T f;have o:=At T c;generalize T/f=g at *;generalize T%f=t at *;have a:(T+1)*E<=(f*g+f)*E:=Ae _ Y;have e:(g+1)*V=(f*g+f)*E+(g+1)*lo2:=by rw[d];grind
 have i:g*lo2<=g*E:=Ai _ Y;have b:(f*g+g)*E<=(T+f)*E:=Ae _ Y;rw[Ci]at a b;refine⟨?_,?_⟩
 . omega
 grind
theorem KK(a:f=d1*(B*E)+lo)(b:V=d1*E+lo2)(g:lo2<E)(k:B<=2*d1)(j:f<V*B)(i:2<=B):Db f V (B-1):=by
 refine⟨B7,?_⟩;obtain⟨c,rfl⟩:∃c,B=c+2:=⟨B-2,Y⟩;rw[show c+2-1=c+1 from by omega,Ci,CS];apply Nat.add_le_add_right;rw[a,b,CB];have d:c*lo2<=c*E:=Ai _ Y;have e:c*E<=2*d1*E:=Ae _ Y;grind
theorem KL(h:Db f V g)(c:q+V*g=f):g=f/V/\q=f%V:=by
 have b:g*V=V*g:=Am _ _;have a:=h.1;rw[Ci,CS]at a;have d:q<V:=Y
 grind[Cl,AE,A6,AZ]
theorem KM{P q2 c2:Nat}(h:Db f V g)(c:q+V*g=f+P)(o:q<P)(m:q2+P*c2=q+V)(n:q2<P)(j:c2<=1):1<=g/\g-1=f/V/\q2=f%V:=by
 have d:=h.2;have k:g*V=V*g:=Am _ _;have l:1<=g:=by
  rcases An g with a|a
  . rw[a]at c;omega
  . exact a
 have e:V*(g-1)+V=V*g:=by rw[<-Nat.mul_succ];congr 1;omega
 have b:c2=1:=by
  rcases(by omega:c2=0\/c2=1)with a|a
  . subst a;omega
  . exact a
 subst b;have i:q2+V*(g-1)=f:=Y
 have p:q2<V:=Y
 grind[Cl,AE,A6,AZ]
def YF(x y:Nat):Nat:=(x-y)+(y-x)
def XB(d e:Nat)(s:Int)(h l c nb b a:Nat):Prop:=
 (s=1\/s=-1)/\d=nb*l+a*h/\e=c*l+b*h/\(c:Int)*a-nb*b=s/\b<=a/\c+b<=nb+a/\1<=a/\l<=h
def XB.start(h:j<=f):XB f j 1 f j 1 0 0 1:=
 ⟨Ar J,Y,Y,Y,Y,Y,Y,h⟩
theorem XB.step{l nb:Nat}(hs:XB f j s h l o nb p v)(hl:1<=l):
 XB f j (-s) l (h%l) p v (o+h/l*p) (nb+h/l*v):=by
 obtain⟨m,b,c,n,a,t,u,w⟩:=hs;have d:=Ay h l;have x:1<=h/l:=(Cs Y).2 Y;have y:h%l<l:=At _ Y;generalize h/l=q at *;generalize h%l=r at *;subst d;have g:q*p<=q*v:=Ai q a;have i:(q-1)*p<=(q-1)*v:=Ai _ a;have k:(q-1)*p+p=q*p:=by
  rw[<-Nat.succ_mul];congr 1;omega
 have e:(q-1)*v+v=q*v:=by
  rw[<-Nat.succ_mul];congr 1;omega
 refine⟨Y,by rw[b];grind,by rw[c];grind,?_,Y,Y,Y,Y⟩;grind
def XB.small{l nb:Nat}(hs:XB f j s h l o nb p v)(hl:1<=l):nb+v<=f/\o+p<=j:=by
 obtain⟨e,g,i,k,m,n,q,r⟩:=hs;have a:nb<=nb*l:=A4 nb hl;have b:v<=v*h:=A4 v Y;have c:o<=o*l:=A4 o hl;have d:p<=p*h:=A4 p Y;omega
def Xs(a B c d b nb:Nat):Prop:=
 a=d*YF (b*a) (nb*B)+nb*YF (c*a) (d*B)/\B=c*YF (b*a) (nb*B)+b*YF (c*a) (d*B)/\
 YF (b*a) (nb*B)<YF (c*a) (d*B)/\1<=nb
def GX{x:Nat}(a:0<=z)(h:z=(x:Int)-y\/z=(y:Int)-x):(YF x y:Int)=z:=by
 unfold YF;omega
theorem XB.out{S al be l nb a:Nat}(hs:XB f j s h l p nb v a)(G:o=f*S+al)(H:B=j*S+be)(t:al<S)(u:be<S)
(hl:a<=l)(I:nb+a<=h-l):Xs o B p nb v a:=by
 obtain⟨r,A,C,d,D,E,F,L⟩:=hs;have n:(f:Int)=nb*l+a*h:=by rw[A];push_cast;rfl
 have q:(j:Int)=p*l+v*h:=by rw[C];push_cast;rfl
 have k:(o:Int)=f*S+al:=by rw[G];push_cast;rfl
 have m:(B:Int)=j*S+be:=by rw[H];push_cast;rfl
 have c:s*s=1:=B7
 obtain⟨X,e⟩:∃X:Int,X=s*(p*o-nb*B):=⟨_,J⟩;obtain⟨b,g⟩:∃b:Int,b=-s*(v*o-a*B):=⟨_,J⟩;have x1:X=(h:Int)*S+s*(p*al-nb*be):=by
  have:X=(s*(p*a-nb*v))*h*S+s*(p*al-nb*be):=by rw[e,k,m,n,q];grind
  rw[this,d,c];grind
 have w:b=(l:Int)*S-s*(v*al-a*be):=by
  have:b=(s*(p*a-nb*v))*l*S-s*(v*al-a*be):=by rw[g,k,m,n,q];grind
  rw[this,d,c];grind
 have c1:(v:Int)*al<=a*al:=by exact_mod_cast Ae al D
 have c2:(a:Int)*al<a*S:=by exact_mod_cast Cr t Y
 have c3:(a:Int)*be<a*S:=by exact_mod_cast Cr u Y
 have c4:(a:Int)*S<=l*S:=by exact_mod_cast Ae S hl
 have d1:((p+v:Nat):Int)*al<=(nb+a:Nat)*al:=by exact_mod_cast Ae al E
 have x:((nb+a:Nat):Int)*al<(nb+a:Nat)*S:=by exact_mod_cast Cr t Y
 have y:((nb+a:Nat):Int)*be<(nb+a:Nat)*S:=by exact_mod_cast Cr u Y
 have i:((nb+a:Nat):Int)*S<=(h-l:Nat)*S:=by exact_mod_cast Ae S I
 have z:((h-l:Nat):Int)=h-l:=Y
 rw[z]at i;simp only[Int.natCast_add,Int.add_mul,Int.sub_mul]at d1 x y i;have p1:(0:Int)<=a*be:=by exact_mod_cast AR _
 have P:(0:Int)<=v*al:=by exact_mod_cast AR _
 have Q:(0:Int)<=p*al:=by exact_mod_cast AR _
 have R:(0:Int)<=nb*be:=by exact_mod_cast AR _
 have N:0<b:=by
  rw[w];rcases r with rfl|rfl<;>omega
 have M:b<X:=by
  rw[x1,w];rcases r with rfl|rfl<;>omega
 have ex:(YF (p*o) (nb*B):Int)=X:=GX Y B7;have K:(YF (v*o) (a*B):Int)=b:=GX Y B7;refine⟨?_,?_,Y,F⟩
 . have:(o:Int)=nb*b+a*X:=by
    have:(nb:Int)*b+a*X=(s*(p*a-nb*v))*o:=by rw[e,g];grind
    rw[this,d,c];omega
   grind
 . have:(B:Int)=p*b+v*X:=by
    have:(p:Int)*b+v*X=(s*(p*a-nb*v))*B:=by rw[e,g];grind
    rw[this,d,c];omega
   grind
theorem Xs.gcd{a B c d b nb:Nat}(h:Xs a B c d b nb):Nat.gcd (YF (c*a) (d*B)) (YF (b*a) (nb*B))=Nat.gcd a B:=by
 obtain⟨e,f,_,_⟩:=h;apply Nat.dvd_antisymm
 . grind[Nat.gcd_dvd_left,Nat.gcd_dvd_right,Nat.dvd_gcd,Nat.dvd_add]
 grind[Nat.gcd_dvd_left,Nat.gcd_dvd_right,YF,Nat.dvd_add,Nat.dvd_sub,Nat.dvd_gcd]
def Xs.less{nb:Nat}(h:Xs f B j o p nb)(hp:o≠0)(i:0<B):YF (j*f) (o*B)+YF (p*f) (nb*B)<f+B:=by
 obtain⟨c,d,e,g⟩:=h;have a:YF (p*f) (nb*B)<=o*YF (p*f) (nb*B):=Cp _ Y;have b:YF (j*f) (o*B)<=nb*YF (j*f) (o*B):=Cp _ Y;omega
