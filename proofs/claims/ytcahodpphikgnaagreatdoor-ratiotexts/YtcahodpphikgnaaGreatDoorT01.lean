import Derived.Test.YtcahodpphikgnaaGreatDoorT00
set_option linter.all false
set_option maxRecDepth 99999
set_option maxHeartbeats 0
namespace Go.Proofs.YtcahodpphikgnaaGreatDoor
def Bq:=@Nat.mul_pos
def Bd:=@decide_eq_false_iff_not
def BV:=@decide_eq_true_eq
def BT:=@if_pos
def BR:=@if_neg
def val(B:Nat):Ja->Nat
 |[]=>0
 |d::ds=>d+B*val B ds
def Bs(B:Nat)(ds:Ja):Prop:=∀d∈ds,d<B
def DR(B:Nat):Nat->Nat->Ja
 |0,_=>[]
 |k+1,n=>if n=0\/B<2 then []else n%B::DR B k (n/B)
def Jb(B n:Nat):Ja:=DR B n n
theorem Fl(B:Nat):∀(k n m:Nat),n<=k->n<=m->DR B k n=DR B m n
 |0,n,m,h,_=>by
  have:n=0:=Y
  subst this;cases m with
  |zero=>rfl
  |succ m=>rw[DR,DR,BT (Aq J)]
 |k+1,n,0,_,h=>by
  grind[DR]
 |k+1,n,m+1,a,b=>by
  rw[DR,DR];by_cases h:n=0\/B<2
  . rw[BT h,BT h]
  . have c:n/B<n:=CT Y Y;rw[BR h,BR h,Fl B k (n/B) m Y Y]
def Jl:Ja->Ja
 |[]=>[]
 |d::ds=>match Jl ds with
  |[]=>if d=0 then []else [d]
  |e::es=>d::e::es
variable{s z:Int}{D a b ds:Ja}{l:List UInt8}{B E V d d0 d1 f g h i j k lo lo2 m n o p q r u u1 v y:Nat}{c:UInt8}
theorem Bs.nil(B:Nat):Bs B []:=λ_ h=>by cases h
theorem Bs.cons(h:d<B)(k:Bs B ds):Bs B (d::ds):=λx a=>by
 rcases List.mem_cons.1 a with rfl|a
 . exact h
 . exact k x a
def Bs.head(h:Bs B (d::ds)):d<B:=h d (CG ..)
def Bs.tail(h:Bs B (d::ds)):Bs B ds:=λx a=>h x (List.mem_cons_of_mem _ a)
def Bs.append(h:Bs B a)(k:Bs B b):Bs B (a++b):=λx c=>by
 rcases Cz.1 c with c|c
 . exact h x c
 . exact k x c
theorem Do(B:Nat):val B []=0:=rfl
theorem JG(B d:Nat)(ds:Ja):val B (d::ds)=d+B*val B ds:=rfl
theorem val_append(B:Nat):∀(a b:Ja),val B (a++b)=val B a+B^a.length*val B b
 |[],b=>by simp[val]
 |d::a,b=>by
  simp only[AJ,JG,val_append B a b,Ar,AL];grind
theorem JJ{B:Nat}:∀ {ds:Ja},Bs B ds->val B ds<B^ds.length
 |[],_=>by simp[val]
 |d::ds,h=>by
  have b:=h.head;have a:=JJ h.tail;simp only[JG,Ar,AL];have c:B*val B ds+B<=B*B^ds.length:=by
   rw[<-Nat.mul_succ];exact Ai _ a
  grind
theorem Jn(B:Nat):Jb B 0=[]:=rfl
theorem Yp(b:2<=B)(c:n≠0):Jb B n=n%B::Jb B (n/B):=by
 unfold Jb;obtain⟨m,rfl⟩:∃m,n=m+1:=⟨n-1,Y⟩;have a:(m+1)/B<m+1:=CT Y Y;grind[DR,Fl]
theorem Je(b:2<=B)(n:Nat):val B (Jb B n)=n:=by
 induction n using Nat.strongRecOn with
 |ind n c=>
  by_cases a:n=0
  . subst a;rw[Jn];rfl
  grind[Yp,JG,CT,Nat.mod_add_div]
theorem Jf(a:2<=B)(n:Nat):Bs B (Jb B n):=by
 induction n using Nat.strongRecOn with
 |ind n b=>
  grind[Jn,Bs.nil,Yp,Bs.cons,Au,CT]
theorem Jq(a:2<=B):Jb B n=[]↔n=0:=by
 constructor
 . intro h;have:=Je a n;rw[h]at this;exact this.symm
 . intro h;rw[h,Jn]
theorem Yl(h:Jl ds=[]):Jl (d::ds)=if d=0 then []else [d]:=by
 simp only[Jl,h]
theorem YF(h:Jl ds≠[]):Jl (d::ds)=d::Jl ds:=by
 grind[Jl]
theorem XV(B:Nat):∀(ds:Ja),val B (Jl ds)=val B ds
 |[]=>rfl
 |d::ds=>by
  by_cases h:Jl ds=[]
  . have:=XV B ds;grind[Yl,val]
  . rw[YF h,JG,JG,XV B ds]
theorem JE{B:Nat}(e:2<=B):∀ {ds:Ja},Bs B ds->Jb B (val B ds)=Jl ds
 |[],_=>by rw[Do,Jn];rfl
 |d::ds,h=>by
  have c:=h.head;have k:=JE e h.tail;rw[JG];by_cases j:d+B*val B ds=0
  . have l:d=0:=Y
    have i:val B ds=0:=by
     rcases Ag (val B ds)with b|b
     . exact b
     . have:0<B*val B ds:=Bq Y b
       omega
    grind[Jn,Yl]
  . rw[Yp e j];have f:(d+B*val B ds)%B=d:=by rw[A7];exact A1 c
    have g:(d+B*val B ds)/B=val B ds:=by
     rw[Cq _ _ Y,AE c,Cd]
    rw[f,g,k];by_cases a:Jl ds=[]
    . rw[Yl a,a];have i:val B ds=0:=by rw[<-XV B ds,a];rfl
      grind
    . rw[YF a]
def DI(ds:Ja):Prop:=Jl ds=ds
def JM(a:2<=B)(n:Nat):DI (Jb B n):=by
 have h:=JE a (Jf a n);rw[Je a]at h;exact h.symm
theorem Yj(a:2<=B)(h:Bs B ds)(b:DI ds):Jb B (val B ds)=ds:=(JE a h).trans b
theorem Yk:∀(ds:Ja) {d:Nat},d≠0->Jl (ds++[d])=ds++[d]
 |[],d,h=>by simp[Jl,h]
 |e::ds,d,h=>by
  have a:=Yk ds h;rw[AJ,YF (by rw[a];simp),a]
theorem J0:∀(ds:Ja),Jl (ds++[0])=Jl ds
 |[]=>by simp[Jl]
 |e::ds=>by
  have a:=J0 ds;grind[Jl]
theorem Fm(ds:Ja)(k:Nat)(g:k<=ds.length)(c:∀j,k<=j->j<ds.length->ds[j]?=some 0):Jl (ds.take k)=Jl ds:=by
 obtain⟨m,l⟩:∃m,ds.length=k+m:=⟨ds.length-k,Y⟩;induction m generalizing ds with
 |zero=>grind
 |succ m b=>
  have hl:ds=ds.take (k+m)++[0]:=by
   apply List.ext_getElem?;intro i;by_cases f:i<k+m
   . grind
   . grind
  have a:(ds.take (k+m)).length=k+m:=by rw[Ah];omega
  have:=b (ds.take (k+m)) Y (by
   intro j d e;grind) a
  grind[J0]
theorem Hz(ds:Ja)(k:Nat)(b:k<ds.length)(c:ds[k]?≠some 0)(a:∀j,k<j->j<ds.length->ds[j]?=some 0):Jl ds=ds.take (k+1):=by
 grind[Fm,Aw,Yk]
def H5(ds:Ja)(a:∀j,j<ds.length->ds[j]?=some 0):Jl ds=[]:=by
 have:=Fm ds 0 Y λj _ h=>a j h;rw[<-this];simp[Jl]
def Fn{B:Nat}:∀ {ds:Ja},Bs B ds->Bs B (Jl ds)
 |[],h=>h
 |d::ds,h=>by
  by_cases a:Jl ds=[]
  . rw[Yl a];split
    . exact Bs.nil B
    . exact Bs.cons h.head (Bs.nil B)
  . rw[YF a];exact Bs.cons h.head (Fn h.tail)
theorem Ys:∀(ds:Ja),(Jl ds).length<=ds.length
 |[]=>by simp[Jl]
 |d::ds=>by
  have:=Ys ds;grind[Jl]
theorem Jt(a:2<=B)(h:n<B^k):(Jb B n).length<=k:=by
 induction k generalizing n with
 |zero=>
  grind[Jn]
 |succ k b=>
  grind[Yp,Nat.div_lt_of_lt_mul]
def Xz(b:2<=B)(h:(Jb B n).length=k+1):B^k<=n:=by
 rcases At n (B^k)with a|a
 . have:=Jt b a;omega
 . exact a
def J1(a:2<=B)(h:(Jb B m).length<(Jb B n).length):m<n:=by
 have b:m<B^(Jb B m).length:=by
  have:=JJ (Jf a m);rwa[Je a]at this
 have c:B^((Jb B n).length-1)<=n:=Xz a Y;have d:B^(Jb B m).length<=B^((Jb B n).length-1):=Am Y Y;omega
def J9(m n:Nat):Int:=if m<n then -1 else if n<m then 1 else 0
theorem Ek(m:Nat):J9 m m=0:=by simp[J9]
theorem YG(h:m<n):J9 m n=-1:=by simp[J9,h]
theorem XW(h:n<m):J9 m n=1:=by
 grind[J9]
theorem Fo(ds:Ja)(k:Nat)(a:k<ds.length):val B ds=val B (ds.take k)+B^k*(ds[k]?.getD 0+B*val B (ds.drop (k+1))):=by
 grind[AD,AA,val_append,JG]
def Bs.take{B:Nat}{ds:Ja}(h:Bs B ds)(k:Nat):Bs B (ds.take k):=λx a=>h x (List.mem_of_mem_take a)
def Bs.drop{B:Nat}{ds:Ja}(h:Bs B ds)(k:Nat):Bs B (ds.drop k):=λx a=>h x (List.mem_of_mem_drop a)
def Bs.get(h:Bs B ds)(a:k<ds.length):ds[k]?.getD 0<B:=by
 rw[Aj a];exact h _ (CP a)
theorem Bs.getD{B:Nat}{ds:Ja}(h:Bs B ds)(b:0<B)(k:Nat):ds[k]?.getD 0<B:=by
 rcases At k ds.length with a|a
 . exact h.get a
 grind
theorem El(e:Bs B a)(hl:a.length=b.length)(k:Nat)(g:k<a.length)(f:a.drop (k+1)=b.drop (k+1))(h:a[k]?.getD 0<b[k]?.getD 0):val B a<val B b:=by
 rw[Fo a k g,Fo b k Y,<-f];have c:=JJ (e.take k);have d:(a.take k).length=k:=by rw[Ah];omega
 rw[d]at c;have i:B^k*(a[k]?.getD 0+B*val B (a.drop (k+1)))+B^k<=B^k*(b[k]?.getD 0+B*val B (a.drop (k+1))):=by
  rw[<-Nat.mul_succ];exact Ai _ Y
 omega
theorem Fp(hl:a.length=b.length)(k:Nat)(d:k<a.length)(c:a.drop (k+1)=b.drop (k+1))(h:a[k]?.getD 0=b[k]?.getD 0):a.drop k=b.drop k:=by
 grind[AA]
theorem JV(c:2<=B)(d:Bs B a)(e:Bs B b)(f:DI a)(g:DI b)(h:a.length<b.length):val B a<val B b:=by
 apply J1 c;grind[Yj]
theorem Jj(B:Nat)(ds:Ja)(k:Nat):val B (ds.take (k+1))=val B (ds.take k)+B^k*ds[k]?.getD 0:=by
 grind[Aw,val_append,val,Ab]
theorem JQ(B:Nat)(ds:Ja)(d:Nat):val B (ds++[d])=val B ds+B^ds.length*d:=by
 rw[val_append];simp[val]
theorem Em(c:2<=B)(h:Bs B ds)(hp:ds=[]\/B^(ds.length-1)<=val B ds):DI ds:=by
 rcases hp with rfl|hp
 . rfl
 . have a:=Ys ds;rcases At (Jl ds).length ds.length with g|e
   . have b:=JJ (Fn h);rw[XV]at b;have f:B^(Jl ds).length<=B^(ds.length-1):=Am Y Y;omega
   . have hl:(Jl ds).length=ds.length:=Y
     clear a e hp h c;unfold DI;induction ds with
     |nil=>rfl
     |cons d ds i=>
      grind[Jl]
theorem H7(a:Ja)(c s b:Nat)(h:val B a+B^a.length*c=b):val B (a++[(c+s)%B])+B^(a.length+1)*((c+s)/B)=b+B^a.length*s:=by
 grind[JQ,Nat.mod_add_div]
def Yb(a:2<=B)(h:(Jb B n).length=k)(b:k≠0):B^(k-1)<=n:=Xz a Y
theorem IA(b:2<=B){a:Ja}(d:Bs B a)(e:val B a=m+n)
(hl:a.length<=max (Jb B m).length (Jb B n).length\/B^(a.length-1)<=val B a)(hle:max (Jb B m).length (Jb B n).length<=a.length):a=Jb B (m+n):=by
 rw[<-e];refine(Yj b d (Em b d ?_)).symm;by_cases c:a.length=0
 . grind
 . right
   rcases hl with hl|hl
   . rcases Nat.le_total (Jb B m).length (Jb B n).length with h|h
     . have:=Yb b (n:=n) (k:=a.length) Y c;omega
     . have:=Yb b (n:=m) (k:=a.length) Y c;omega
   . exact hl
def DJ(d:Nat):UInt8:=UInt8.ofNat (48+d)
def DE(ds:Ja):List UInt8:=(ds.map DJ).reverse
def J6(n:Nat):List UInt8:=if n=0 then [48]else DE (Jb 10 n)
def JZ(z:Int):List UInt8:=if z<0 then 45::J6 z.natAbs else J6 z.natAbs
def Eo(ds:Ja)(d:Nat):DE (ds++[d])=DJ d::DE ds:=by simp[DE]
theorem Fq(ds:Ja):(DE ds).length=ds.length:=by simp[DE]
def Yt(ds:Ja)(i k n:Nat)(D:Ja):Prop:=
 D.length=4*i+k/\Bs 10 D/\k<=4/\n=ds[i]?.getD 0/10^k/\val 10 D+10^(4*i+k)*n=val 10000 (ds.take i)+10000^i*ds[i]?.getD 0/\(i+1<ds.length\/k=0\/10^(k-1)<=ds[i]?.getD 0)
def Ep(i:Nat):(10:Nat)^(4*i)=10000^i:=by rw[Nat.pow_mul]
def Yt.start(hl:D.length=4*i)(a:Bs 10 D)(b:val 10 D=val 10000 (ds.take i)):Yt ds i 0 (ds[i]?.getD 0) D:=by
 refine⟨Y,a,Y,Br,?_,AN (Aq J)⟩;rw[AK,Ep,b]
theorem Yt.step(h:Yt ds i k n D)(j:k<4)(g:0<n\/i+1<ds.length):Yt ds i (k+1) (n/10) (D++[n%10]):=by
 obtain⟨c,a,d,b,e,f⟩:=h;refine⟨by simp;omega,a.append (Bs.cons (Au _ Y) (Bs.nil _)),Y,?_,?_,?_⟩
 . rw[b,CH,<-AL]
 . grind[JQ,Nat.mod_add_div]
 grind[Nat.div_pos_iff]
theorem Yt.next(h:Yt ds i 4 n D)(c:Bs 10000 ds):D.length=4*(i+1)/\Bs 10 D/\val 10 D=val 10000 (ds.take (i+1)):=by
 obtain⟨e,f,g,a,j,k⟩:=h;have b:=c.getD Y i;have d:n=0:=by rw[a];exact AE (by simpa using b)
 grind[Jj]
def Yt.last(h:Yt ds i k 0 D)(r:i+1=ds.length):D.length<=4*ds.length/\Bs 10 D/\val 10 D=val 10000 ds/\(val 10000 ds≠0->DI ds->D=Jb 10 (val 10000 ds)):=by
 obtain⟨g,b,q,j,l,a⟩:=h;have e:val 10 D=val 10000 ds:=by
  have:=Jj 10000 ds i;rw[Ab Y]at this;rw[this,<-l];simp
 refine⟨Y,b,e,λt p=>?_⟩;rw[<-e];refine(Yj Y b (Em Y b ?_)).symm;have u:ds[i]?.getD 0≠0:=by
  intro c;have m:ds=ds.take i++[0]:=by
   conv=>lhs;rw[<-AD i ds,AA (by omega:i<ds.length)]
   rw[AH Y];rw[Aj Y]at c;have f:ds[i]=0:=c;rw[f]
  have n:(Jl ds).length<=i:=by
   rw[m,J0];have:=Ys (ds.take i);rw[Ah]at this;omega
  rw[p]at n;omega
 right
 rw[g,e];have s:k≠0:=by
  intro o;subst o;simp at j;omega
 rcases a with a|a|a
 . omega
 . omega
 . have:=Jj 10000 ds i;rw[Ab Y]at this;rw[this];have d:(10:Nat)^(4*i+k-1)=10000^i*10^(k-1):=by
    rw[<-Ep,<-Cm];congr 1;omega
   rw[d];have:=Ai (10000^i) a;omega
theorem D9(h:n≠0):J6 n=DE (Jb 10 n):=by simp[J6,h]
def C2(c:UInt8):Bool:=decide (48<=c.toNat)&&decide (c.toNat<=57)
def C9(l:List UInt8):Ja:=(l.map λc=>c.toNat-48).reverse
def num(l:List UInt8):Nat:=val 10 (C9 l)
def Jv(l:List UInt8):List UInt8:=if l.head?=some 45 then l.tail else l
def good(l:List UInt8):Bool:=decide (l.length<=2000) && !(Jv l).isEmpty&&(!decide ((Jv l).head?=some 48) || decide (l=[48]))&&(Jv l).all C2
def JW(l:List UInt8):Int:=if l.head?=some 45 then -(num (Jv l):Int)else num (Jv l)
theorem J4(h:C2 c=true):48<=c.toNat/\c.toNat<=57:=by simpa[C2]using h
theorem YB(h:d<10):(DJ d).toNat=48+d:=by
 unfold DJ;rw[UInt8.toNat_ofNat'];omega
theorem IB(h:C2 c=true):DJ (c.toNat-48)=c:=by
 grind[J4,CU,YB]
def IC(l:List UInt8)(c:UInt8):C9 (l++[c])=(c.toNat-48)::C9 l:=by simp[C9]
theorem Er(l:List UInt8)(c:UInt8):num (l++[c])=(c.toNat-48)+10*num l:=by rw[num,IC,JG];rfl
def ID(a b:List UInt8):C9 (a++b)=C9 b++C9 a:=by simp[C9]
theorem Xo(l:List UInt8):(C9 l).length=l.length:=by simp[C9]
theorem YX(a b:List UInt8):num (a++b)=num b+10^b.length*num a:=by rw[num,ID,val_append,Xo];rfl
theorem Es(h:l.all C2=true):Bs 10 (C9 l):=by
 intro d a;grind[C9,J4]
theorem IE(h:l.all C2=true):DE (C9 l)=l:=by
 simp only[DE,C9,List.map_reverse,List.reverse_reverse,List.map_map];conv=>rhs;rw[<-List.map_id l]
 grind[Cg,IB]
theorem IF(b:C2 c=true)(a:c≠48):DI (C9 (c::l)):=by
 have e:C9 (c::l)=C9 l++[c.toNat-48]:=by simp[C9]
 rw[e];refine Yk _ ?_;have:=J4 b;intro h;apply a;apply CU.1;grind
theorem Et(h:(c::l).all C2=true)(a:c≠48):J6 (num (c::l))=c::l/\num (c::l)≠0:=by
 grind[Yj,Es,IF,num,Jn,Xo,D9,IE]
theorem Eu(h:good l=true):JZ (JW l)=l:=by
 simp only[good,AU,BV,Bool.or_eq_true,A8,Bd]at h;obtain⟨⟨⟨_,j⟩,f⟩,a⟩:=h;cases e:Jv l with
 |nil=>grind
 |cons c t=>
  rw[e]at f a;by_cases b:c=48
  . grind[JW,Jv,JZ,J6,num,C9,val]
  . obtain⟨g,i⟩:=Et a b;by_cases d:l.head?=some 45
    . have hl:l=45::c::t:=by
       cases l with
       |nil=>simp at d
       |cons x k=>
        grind[Jv]
      grind[JW,JZ]
    grind[Jv,JW,JZ]
def IG(h:Bs 10 ds):(DE ds).all C2=true:=by
 rw[AZ];intro c a;simp only[DE,List.mem_reverse,List.mem_map]at a;obtain⟨d,b,rfl⟩:=a;have:=h d b;simp[C2,YB this];omega
def IH(h:Bs 10 ds):num (DE ds)=val 10 ds:=by
 have e:C9 (DE ds)=ds:=by
  simp only[DE,C9,List.map_reverse,List.reverse_reverse,List.map_map];conv=>rhs;rw[<-List.map_id ds]
  apply Cg;intro d a;have:=h d a;simp[YB this]
 rw[num,e]
theorem Fr(j:n≠0):∃c t,J6 n=c::t/\c≠48/\c≠45/\(c::t).all C2=true/\num (c::t)=n:=by
 have a:=Jf (B:=10) Y n;have k:=JM (B:=10) Y n;have q:=Je (B:=10) Y n;have m:Jb 10 n≠[]:=by rw[Ne,Jq Y];exact j
 have f:=IG a;have b:=IH a;have e:J6 n=DE (Jb 10 n):=D9 j;rw[q]at b;obtain⟨ds,d,p⟩:∃ds d,Jb 10 n=ds++[d]:=⟨_,_,(List.dropLast_concat_getLast m).symm⟩;rw[p]at f b e k a;rw[Eo]at f b e;have r:d≠0:=by
  intro o;subst o;have g:(Jl (ds++[0])).length<=ds.length:=by rw[J0];exact Ys ds
  rw[k]at g;simp at g;omega
 have l:d<10:=a d Br;have i:=YB l;refine⟨DJ d,DE ds,e,?_,?_,f,b⟩
 . intro h;rw[h]at i;grind
 . intro h;rw[h]at i;grind
theorem II(h:(JZ z).length<=2000):good (JZ z)=true/\JW (JZ z)=z:=by
 by_cases a:z.natAbs=0
 . have:z=0:=Y
   subst this;simp[JZ,J6,good,JW,Jv,num,C9,val,C2]
 . obtain⟨c,t,e,d,b,f,g⟩:=Fr a;grind[JZ,good,Jv,JW]
theorem XD(a:10<=B):(Jb B n).length<=(Jb 10 n).length:=by
 refine Jt Y ?_;have h:=JJ (Jf (B:=10) Y n);grind[Je,Ap,Ci]
theorem IJ(h:good l=true)(a:10<=B):(Jb B (JW l).natAbs).length<=2000:=by
 grind[Eu,good,XD,Jn,D9,Fq,JZ]
def Dp(u u1 d1 d0 q r:Nat):Prop:=
 q*d1+r=u/\(u*4294967296+u1)/(d1*4294967296+d0)<=q/\q<=4294967297/\r<4294967296
theorem Fs(b:2147483648<=d1)(c:d1<4294967296)(a:d0<4294967296)(i:u1<4294967296)(g:u<d1*4294967296+d0):
 Dp u u1 d1 d0 (u/d1) (u%d1):=by
 have e:=Az u d1;have f:u%d1<d1:=Au _ Y;have d:d1*(u/d1)=u/d1*d1:=Ao _ _;refine⟨Y,?_,?_,Y⟩
 . apply Cf;rw[Ak Y];grind
 . apply Cf;rw[Ak Y];omega
theorem Ft(h:Dp u u1 d1 d0 q r)(d:0<d1)(c:q*d0<=4294967296*r+u1):q=(u*4294967296+u1)/(d1*4294967296+d0):=by
 obtain⟨a,b,_,_⟩:=h;grind[Nat.le_antisymm,Cx]
theorem Fu(h:Dp u u1 d1 d0 q r)(j:2147483648<=d1)(l:u1<4294967296)(k:u<d1*4294967296+d0)(a:4294967296<=q\/4294967296*r+u1<q*d0):
 1<=q/\(q-1)*d1+(r+d1)=u/\(u*4294967296+u1)/(d1*4294967296+d0)<=q-1/\q-1<=4294967296:=by
 obtain⟨c,d,f,g⟩:=h;have b:1<=q:=by
  rcases a with a|a
  . omega
  . grind
 have e:(q-1)*d1+d1=q*d1:=by
  conv=>rhs;rw[show q=q-1+1 from by omega,Ck,CV]
 refine⟨b,Y,?_,Y⟩;apply Cf;rw[Nat.succ_eq_add_one,Nat.sub_add_cancel b,Ak Y];rcases a with a|a
 . have i:4294967296*(d1*4294967296+d0)<=q*(d1*4294967296+d0):=Ae _ a;omega
 grind
def Y5(d:q*d1+r=u)(a:(u*4294967296+u1)/(d1*4294967296+d0)<=q)(b:q<=4294967296)(c:d0<4294967296)(f:0<d1)(g:4294967296<=r):q=(u*4294967296+u1)/(d1*4294967296+d0):=by
 apply Nat.le_antisymm _ a;rw[Cx Y,CF,<-A2];have e:q*d0<=4294967296*d0:=Ae _ b;omega
def Fv{t un0:Nat}(a:0<d):t/d*k+(t%d*k+un0)/d=(t*k+un0)/d/\(t%d*k+un0)%d=(t*k+un0)%d:=by
 have b:=Az t d;have e:t*k+un0=d*(t/d*k)+(t%d*k+un0):=by
  conv=>lhs;rw[<-b,Ck,A2]
  omega
 rw[e,Nat.mul_add_div a,Nat.mul_add_mod];exact⟨J,J⟩
def IK{a s:Nat}:(a*2^s)/(y*2^s)=a/y/\(a*2^s)%(y*2^s)=a%y*2^s:=
 ⟨Nat.mul_div_mul_right _ _ (AG s),Nat.mul_mod_mul_right _ _ _⟩
def EA(B u u1 d1 d0 q r:Nat):Prop:=
 q*d1+r=u/\(u*B+u1)/(d1*B+d0)<=q/\q<B/\r<B
theorem IL(a:0<d1)(f:d1<B)(j:u1<B)(c:u<d1*B):EA B u u1 d1 d0 (u/d1) (u%d1):=by
 have g:=Az u d1;have i:u%d1<d1:=Au _ a;have e:d1*(u/d1)=u/d1*d1:=Ao _ _;have hp:0<d1*B:=Bq a Y;refine⟨Y,?_,?_,Y⟩
 . apply Cf;rw[Ak Y,Nat.succ_eq_add_one];have b:(u/d1+1)*(d1*B+d0)=(u/d1*d1+d1)*B+(u/d1+1)*d0:=C3
   rw[b];have d:(u+1)*B<=(u/d1*d1+d1)*B:=Ae _ Y;grind
 . rw[Ak a,Ao];exact c
def XE(a:q*d1+r=u)(b:(u*B+u1)/(d1*B+d0)<=q)(d:0<d1*B)(c:q*d0<=r*B+u1):q=(u*B+u1)/(d1*B+d0):=by
 apply Nat.le_antisymm _ b;rw[Cx Y,CF,<-A2,<-a,Ck];omega
def IM(h:EA B u u1 d1 d0 q r)(j:0<d1*B)(d:r*B+u1<q*d0):
 1<=q/\(q-1)*d1+(r+d1)=u/\(u*B+u1)/(d1*B+d0)<=q-1/\q-1<B:=by
 obtain⟨c,f,g,i⟩:=h;have b:1<=q:=by
  rcases Ag q with a|a
  . rw[a]at d;omega
  . exact a
 have e:(q-1)*d1+d1=q*d1:=by
  rw[<-Nat.succ_mul];congr 1;omega
 refine⟨b,Y,?_,Y⟩;apply Cf;rw[Nat.succ_eq_add_one,Nat.sub_add_cancel b,Ak Y,CF,<-A2,<-c,Ck];omega
def IP(a:q*d1+r=u)(b:(u*B+u1)/(d1*B+d0)<=q)(f:q<B)(e:d0<B)(c:0<d1*B)(d:B<=r):q=(u*B+u1)/(d1*B+d0):=by
 apply XE a b c;have g:q*d0<=B*d0:=Ae _ Y;have i:B*d0<=B*B:=Ai _ Y;have j:B*B<=r*B:=Ae _ d;omega
def DS(a V g:Nat):Prop:=a<(g+1)*V/\g*V<=a+V
theorem IQ{T:Nat}(m:j=T*E+lo)(d:V=f*E+lo2)(k:lo<E)(l:lo2<E)(p:T/f<=f)(c:0<f):DS j V (T/f):=by
 have n:=Az T f;have o:=Au T c;generalize T/f=g at *;generalize T%f=t at *;have a:(T+1)*E<=(f*g+f)*E:=Ae _ Y;have e:(g+1)*V=(f*g+f)*E+(g+1)*lo2:=by rw[d];grind
 have i:g*lo2<=g*E:=Ai _ Y;have b:(f*g+g)*E<=(T+f)*E:=Ae _ Y;rw[Ck]at a b;refine⟨?_,?_⟩
 . omega
 grind
theorem IR(a:f=d1*(B*E)+lo)(b:V=d1*E+lo2)(g:lo2<E)(k:B<=2*d1)(j:f<V*B)(i:2<=B):DS f V (B-1):=by
 refine⟨C3,?_⟩;obtain⟨c,rfl⟩:∃c,B=c+2:=⟨B-2,Y⟩;rw[show c+2-1=c+1 from by omega,Ck,CV];apply Nat.add_le_add_right;rw[a,b,CF];have d:c*lo2<=c*E:=Ai _ Y;have e:c*E<=2*d1*E:=Ae _ Y;grind
theorem IU(h:DS f V g)(c:q+V*g=f):g=f/V/\q=f%V:=by
 have b:g*V=V*g:=Ao _ _;have a:=h.1;rw[Ck,CV]at a;have d:q<V:=Y
 grind[Cq,AE,A7,A1]
theorem IV{P q2 c2:Nat}(h:DS f V g)(c:q+V*g=f+P)(o:q<P)(m:q2+P*c2=q+V)(n:q2<P)(j:c2<=1):1<=g/\g-1=f/V/\q2=f%V:=by
 have d:=h.2;have k:g*V=V*g:=Ao _ _;have l:1<=g:=by
  rcases Ag g with a|a
  . rw[a]at c;omega
  . exact a
 have e:V*(g-1)+V=V*g:=by rw[<-Nat.mul_succ];congr 1;omega
 have b:c2=1:=by
  rcases(by omega:c2=0\/c2=1)with a|a
  . subst a;omega
  . exact a
 subst b;have i:q2+V*(g-1)=f:=Y
 have p:q2<V:=Y
 grind[Cq,AE,A7,A1]
def YA(x y:Nat):Nat:=(x-y)+(y-x)
def XA(d e:Nat)(s:Int)(h l c nb b a:Nat):Prop:=
 (s=1\/s=-1)/\d=nb*l+a*h/\e=c*l+b*h/\(c:Int)*a-nb*b=s/\b<=a/\c+b<=nb+a/\1<=a/\l<=h
def XA.start(h:j<=f):XA f j 1 f j 1 0 0 1:=
 ⟨Aq J,Y,Y,Y,Y,Y,Y,h⟩
theorem XA.step{l nb:Nat}(hs:XA f j s h l o nb p v)(hl:1<=l):
 XA f j (-s) l (h%l) p v (o+h/l*p) (nb+h/l*v):=by
 obtain⟨m,b,c,n,a,t,u,w⟩:=hs;have d:=Az h l;have x:1<=h/l:=(Cx Y).2 Y;have y:h%l<l:=Au _ Y;generalize h/l=q at *;generalize h%l=r at *;subst d;have g:q*p<=q*v:=Ai q a;have i:(q-1)*p<=(q-1)*v:=Ai _ a;have k:(q-1)*p+p=q*p:=by
  rw[<-Nat.succ_mul];congr 1;omega
 have e:(q-1)*v+v=q*v:=by
  rw[<-Nat.succ_mul];congr 1;omega
 refine⟨Y,by rw[b];grind,by rw[c];grind,?_,Y,Y,Y,Y⟩;grind
def XA.small{l nb:Nat}(hs:XA f j s h l o nb p v)(hl:1<=l):nb+v<=f/\o+p<=j:=by
 obtain⟨e,g,i,k,m,n,q,r⟩:=hs;have a:nb<=nb*l:=A5 nb hl;have b:v<=v*h:=A5 v Y;have c:o<=o*l:=A5 o hl;have d:p<=p*h:=A5 p Y;omega
def Xp(a B c d b nb:Nat):Prop:=
 a=d*YA (b*a) (nb*B)+nb*YA (c*a) (d*B)/\B=c*YA (b*a) (nb*B)+b*YA (c*a) (d*B)/\
 YA (b*a) (nb*B)<YA (c*a) (d*B)/\1<=nb
def Fw{x:Nat}(a:0<=z)(h:z=(x:Int)-y\/z=(y:Int)-x):(YA x y:Int)=z:=by
 unfold YA;omega
theorem XA.out{S al be l nb a:Nat}(hs:XA f j s h l p nb v a)(G:o=f*S+al)(H:B=j*S+be)(t:al<S)(u:be<S)
(hl:a<=l)(I:nb+a<=h-l):Xp o B p nb v a:=by
 obtain⟨r,A,C,d,D,E,F,L⟩:=hs;have n:(f:Int)=nb*l+a*h:=by rw[A];push_cast;rfl
 have q:(j:Int)=p*l+v*h:=by rw[C];push_cast;rfl
 have k:(o:Int)=f*S+al:=by rw[G];push_cast;rfl
 have m:(B:Int)=j*S+be:=by rw[H];push_cast;rfl
 have c:s*s=1:=C3
 obtain⟨X,e⟩:∃X:Int,X=s*(p*o-nb*B):=⟨_,J⟩;obtain⟨b,g⟩:∃b:Int,b=-s*(v*o-a*B):=⟨_,J⟩;have x1:X=(h:Int)*S+s*(p*al-nb*be):=by
  have:X=(s*(p*a-nb*v))*h*S+s*(p*al-nb*be):=by rw[e,k,m,n,q];grind
  rw[this,d,c];grind
 have w:b=(l:Int)*S-s*(v*al-a*be):=by
  have:b=(s*(p*a-nb*v))*l*S-s*(v*al-a*be):=by rw[g,k,m,n,q];grind
  rw[this,d,c];grind
 have c1:(v:Int)*al<=a*al:=by exact_mod_cast Ae al D
 have c2:(a:Int)*al<a*S:=by exact_mod_cast Cw t Y
 have c3:(a:Int)*be<a*S:=by exact_mod_cast Cw u Y
 have c4:(a:Int)*S<=l*S:=by exact_mod_cast Ae S hl
 have d1:((p+v:Nat):Int)*al<=(nb+a:Nat)*al:=by exact_mod_cast Ae al E
 have x:((nb+a:Nat):Int)*al<(nb+a:Nat)*S:=by exact_mod_cast Cw t Y
 have y:((nb+a:Nat):Int)*be<(nb+a:Nat)*S:=by exact_mod_cast Cw u Y
 have i:((nb+a:Nat):Int)*S<=(h-l:Nat)*S:=by exact_mod_cast Ae S I
 have z:((h-l:Nat):Int)=h-l:=Y
 rw[z]at i;simp only[Int.natCast_add,Int.add_mul,Int.sub_mul]at d1 x y i;have p1:(0:Int)<=a*be:=by exact_mod_cast AM _
 have P:(0:Int)<=v*al:=by exact_mod_cast AM _
 have Q:(0:Int)<=p*al:=by exact_mod_cast AM _
 have R:(0:Int)<=nb*be:=by exact_mod_cast AM _
 have N:0<b:=by
  rw[w];rcases r with rfl|rfl<;>omega
 have M:b<X:=by
  rw[x1,w];rcases r with rfl|rfl<;>omega
 have ex:(YA (p*o) (nb*B):Int)=X:=Fw Y C3;have K:(YA (v*o) (a*B):Int)=b:=Fw Y C3;refine⟨?_,?_,Y,F⟩
 . have:(o:Int)=nb*b+a*X:=by
    have:(nb:Int)*b+a*X=(s*(p*a-nb*v))*o:=by rw[e,g];grind
    rw[this,d,c];omega
   grind
 . have:(B:Int)=p*b+v*X:=by
    have:(p:Int)*b+v*X=(s*(p*a-nb*v))*B:=by rw[e,g];grind
    rw[this,d,c];omega
   grind
theorem Xp.gcd{a B c d b nb:Nat}(h:Xp a B c d b nb):Nat.gcd (YA (c*a) (d*B)) (YA (b*a) (nb*B))=Nat.gcd a B:=by
 obtain⟨e,f,_,_⟩:=h;apply Nat.dvd_antisymm
 . grind[Nat.gcd_dvd_left,Nat.gcd_dvd_right,Nat.dvd_gcd,Nat.dvd_add]
 grind[Nat.gcd_dvd_left,Nat.gcd_dvd_right,YA,Nat.dvd_add,Nat.dvd_sub,Nat.dvd_gcd]
def Xp.less{nb:Nat}(h:Xp f B j o p nb)(hp:o≠0)(i:0<B):YA (j*f) (o*B)+YA (p*f) (nb*B)<f+B:=by
 obtain⟨c,d,e,g⟩:=h;have a:YA (p*f) (nb*B)<=o*YA (p*f) (nb*B):=Cu _ Y;have b:YA (j*f) (o*B)<=nb*YA (j*f) (o*B):=Cu _ Y;omega
