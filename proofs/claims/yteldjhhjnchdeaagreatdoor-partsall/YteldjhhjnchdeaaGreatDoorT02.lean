import Derived.Test.YteldjhhjnchdeaaGreatDoorT01
set_option linter.all false
set_option maxRecDepth 99999
set_option maxHeartbeats 0
namespace Go.Proofs.YteldjhhjnchdeaaGreatDoor
def DI:=@Nat.mul_pos
def Bs:=@decide_eq_false_iff_not
def BZ:=@decide_eq_true_eq
def val(B:Nat):kQ->Nat
 |[]=>0
 |d::ds=>d+B*val B ds
def DM(B:Nat)(ds:kQ):Prop:=∀d∈ds,d<B
def Gb(B:Nat):Nat->Nat->kQ
 |0,_=>[]
 |k+1,n=>if n=0\/B<2 then []else n%B::Gb B k (n/B)
def Jc(B n:Nat):kQ:=Gb B n n
theorem Pb(B:Nat):∀(k n m:Nat),n<=k->n<=m->Gb B k n=Gb B m n
 |0,n,m,h,_=>by
  have:n=0:=O
  subst this;cases m with
  |zero=>rfl
  |succ m=>rw[Gb,Gb,BL (Am J)]
 |k+1,n,0,_,h=>by
  grind[Gb]
 |k+1,n,m+1,a,b=>by
  rw[Gb,Gb];by_cases h:n=0\/B<2
  . rw[BL h,BL h]
  . have c:n/B<n:=FD O O;rw[BH h,BH h,Pb B k (n/B) m O O]
def Jz:kQ->kQ
 |[]=>[]
 |d::ds=>match Jz ds with
  |[]=>if d=0 then []else [d]
  |e::es=>d::e::es
variable{s z:Int}{D a b ds:kQ}{l:List UInt8}{A B E H L R V d d0 d1 g h i j k lo lo2 m n o p q r u u1 v w y:Nat}{c:UInt8}{f:UInt8->Bool}
theorem DM.nil(B:Nat):DM B []:=λ_ h=>by cases h
theorem DM.cons(h:d<B)(k:DM B ds):DM B (d::ds):=λx a=>by
 rcases List.mem_cons.1 a with rfl|a
 . exact h
 . exact k x a
def DM.head(h:DM B (d::ds)):d<B:=h d (CI ..)
def DM.tail(h:DM B (d::ds)):DM B ds:=λx a=>h x (List.mem_cons_of_mem _ a)
def DM.append(h:DM B a)(k:DM B b):DM B (a++b):=λx c=>by
 rcases CA.1 c with c|c
 . exact h x c
 . exact k x c
def DM.left(h:DM B (a++b)):DM B a:=λx c=>h x (CA.2 (Am c))
def DM.right(h:DM B (a++b)):DM B b:=λx c=>h x (CA.2 (Ax c))
theorem KX(B:Nat):val B []=0:=rfl
theorem Yc(B d:Nat)(ds:kQ):val B (d::ds)=d+B*val B ds:=rfl
theorem val_append(B:Nat):∀(a b:kQ),val B (a++b)=val B a+B^a.length*val B b
 |[],b=>by simp[val]
 |d::a,b=>by
  simp only[Au,Yc,val_append B a b,Ak,Cc];grind
theorem Yl{B:Nat}:∀ {ds:kQ},DM B ds->val B ds<B^ds.length
 |[],_=>by simp[val]
 |d::ds,h=>by
  have b:=h.head;have a:=Yl h.tail;simp only[Yc,Ak,Cc];have c:B*val B ds+B<=B*B^ds.length:=by
   rw[<-Nat.mul_succ];exact Ai _ a
  grind
theorem JD(B:Nat):Jc B 0=[]:=rfl
theorem XP(b:2<=B)(c:n≠0):Jc B n=n%B::Jc B (n/B):=by
 unfold Jc;obtain⟨m,rfl⟩:∃m,n=m+1:=⟨n-1,O⟩;have a:(m+1)/B<m+1:=FD O O;grind[Gb,Pb]
theorem Jp(b:2<=B)(n:Nat):val B (Jc B n)=n:=by
 induction n using Nat.strongRecOn with
 |ind n c=>
  by_cases a:n=0
  . subst a;rw[JD];rfl
  grind[XP,Yc,FD,Nat.mod_add_div]
theorem Jo(a:2<=B)(n:Nat):DM B (Jc B n):=by
 induction n using Nat.strongRecOn with
 |ind n b=>
  grind[JD,DM.nil,XP,DM.cons,AZ,FD]
theorem JF(a:2<=B):Jc B n=[]↔n=0:=by
 constructor
 . intro h;have:=Jp a n;rw[h]at this;exact this.symm
 . intro h;rw[h,JD]
theorem XG(h:Jz ds=[]):Jz (d::ds)=if d=0 then []else [d]:=by
 simp only[Jz,h]
theorem La(h:Jz ds≠[]):Jz (d::ds)=d::Jz ds:=by
 grind[Jz]
theorem Lb(B:Nat):∀(ds:kQ),val B (Jz ds)=val B ds
 |[]=>rfl
 |d::ds=>by
  by_cases h:Jz ds=[]
  . have:=Lb B ds;grind[XG,val]
  . rw[La h,Yc,Yc,Lb B ds]
theorem J6{B:Nat}(e:2<=B):∀ {ds:kQ},DM B ds->Jc B (val B ds)=Jz ds
 |[],_=>by rw[KX,JD];rfl
 |d::ds,h=>by
  have c:=h.head;have k:=J6 e h.tail;rw[Yc];by_cases j:d+B*val B ds=0
  . have l:d=0:=O
    have i:val B ds=0:=by
     rcases AW (val B ds)with b|b
     . exact b
     . have:0<B*val B ds:=DI O b
       omega
    grind[JD,XG]
  . rw[XP e j];have f:(d+B*val B ds)%B=d:=by rw[CC];exact Ci c
    have g:(d+B*val B ds)/B=val B ds:=by
     rw[CZ _ _ O,A3 c,Ct]
    rw[f,g,k];by_cases a:Jz ds=[]
    . rw[XG a,a];have i:val B ds=0:=by rw[<-Lb B ds,a];rfl
      grind
    . rw[La a]
def Ec(ds:kQ):Prop:=Jz ds=ds
def Yr(a:2<=B)(n:Nat):Ec (Jc B n):=by
 have h:=J6 a (Jo a n);rw[Jp a]at h;exact h.symm
theorem XB(a:2<=B)(h:DM B ds)(b:Ec ds):Jc B (val B ds)=ds:=(J6 a h).trans b
theorem XC:∀(ds:kQ) {d:Nat},d≠0->Jz (ds++[d])=ds++[d]
 |[],d,h=>by simp[Jz,h]
 |e::ds,d,h=>by
  have a:=XC ds h;rw[Au,La (by rw[a];simp),a]
theorem YR:∀(ds:kQ),Jz (ds++[0])=Jz ds
 |[]=>by simp[Jz]
 |e::ds=>by
  have a:=YR ds;grind[Jz]
theorem Pc(ds:kQ)(k:Nat)(n:k<=ds.length)(d:∀j,k<=j->j<ds.length->ds[j]?=some 0):Jz (ds.take k)=Jz ds:=by
 obtain⟨m,a⟩:∃m,ds.length=k+m:=⟨ds.length-k,O⟩;induction m generalizing ds with
 |zero=>grind
 |succ m c=>
  have o:ds≠[]:=by intro e;rw[e]at a;simp at a
  have hl:ds=ds.take (k+m)++[0]:=by
   apply List.ext_getElem?;intro i;by_cases l:i<k+m
   . grind
   . grind
  have b:(ds.take (k+m)).length=k+m:=by rw[Ah];omega
  have:=c (ds.take (k+m)) O (by
   intro j f g;grind) b
  grind[YR]
theorem U9(ds:kQ)(k:Nat)(b:k<ds.length)(c:ds[k]?≠some 0)(a:∀j,k<j->j<ds.length->ds[j]?=some 0):Jz ds=ds.take (k+1):=by
 grind[Pc,A0,XC]
def VA(ds:kQ)(a:∀j,j<ds.length->ds[j]?=some 0):Jz ds=[]:=by
 have:=Pc ds 0 O λj _ h=>a j h;rw[<-this];simp[Jz]
def Pd{B:Nat}:∀ {ds:kQ},DM B ds->DM B (Jz ds)
 |[],h=>h
 |d::ds,h=>by
  by_cases a:Jz ds=[]
  . rw[XG a];split
    . exact DM.nil B
    . exact DM.cons h.head (DM.nil B)
  . rw[La a];exact DM.cons h.head (Pd h.tail)
theorem XZ:∀(ds:kQ),(Jz ds).length<=ds.length
 |[]=>by simp[Jz]
 |d::ds=>by
  have:=XZ ds;grind[Jz]
theorem JO(a:2<=B)(h:n<B^k):(Jc B n).length<=k:=by
 induction k generalizing n with
 |zero=>
  grind[JD]
 |succ k b=>
  grind[XP,Nat.div_lt_of_lt_mul]
def Pe(b:2<=B)(h:(Jc B n).length=k+1):B^k<=n:=by
 rcases AP n (B^k)with a|a
 . have:=JO b a;omega
 . exact a
def YS(a:2<=B)(h:(Jc B m).length<(Jc B n).length):m<n:=by
 have b:m<B^(Jc B m).length:=by
  have:=Yl (Jo a m);rwa[Jp a]at this
 have c:B^((Jc B n).length-1)<=n:=Pe a O;have d:B^(Jc B m).length<=B^((Jc B n).length-1):=Ag O O;omega
def Xf(m n:Nat):Int:=if m<n then -1 else if n<m then 1 else 0
theorem NC(m:Nat):Xf m m=0:=by simp[Xf]
theorem Gc(h:m<n):Xf m n=-1:=by simp[Xf,h]
theorem Iz(h:n<m):Xf m n=1:=by
 grind[Xf]
theorem Pf(ds:kQ)(k:Nat)(a:k<ds.length):val B ds=val B (ds.take k)+B^k*(ds[k]?.getD 0+B*val B (ds.drop (k+1))):=by
 grind[A8,AV,val_append,Yc]
def DM.take{B:Nat}{ds:kQ}(h:DM B ds)(k:Nat):DM B (ds.take k):=λx a=>h x (Fy a)
def DM.drop{B:Nat}{ds:kQ}(h:DM B ds)(k:Nat):DM B (ds.drop k):=λx a=>h x (List.mem_of_mem_drop a)
def DM.get(h:DM B ds)(a:k<ds.length):ds[k]?.getD 0<B:=by
 rw[Aq a];exact h _ (List.getElem_mem a)
theorem DM.getD{B:Nat}{ds:kQ}(h:DM B ds)(b:0<B)(k:Nat):ds[k]?.getD 0<B:=by
 rcases AP k ds.length with a|a
 . exact h.get a
 grind
theorem ND(e:DM B a)(hl:a.length=b.length)(k:Nat)(g:k<a.length)(f:a.drop (k+1)=b.drop (k+1))(h:a[k]?.getD 0<b[k]?.getD 0):val B a<val B b:=by
 rw[Pf a k g,Pf b k O,<-f];have c:=Yl (e.take k);have d:(a.take k).length=k:=by rw[Ah];omega
 rw[d]at c;have i:B^k*(a[k]?.getD 0+B*val B (a.drop (k+1)))+B^k<=B^k*(b[k]?.getD 0+B*val B (a.drop (k+1))):=by
  rw[<-Nat.mul_succ];exact Ai _ O
 omega
theorem Pg(hl:a.length=b.length)(k:Nat)(d:k<a.length)(c:a.drop (k+1)=b.drop (k+1))(h:a[k]?.getD 0=b[k]?.getD 0):a.drop k=b.drop k:=by
 grind[AV]
theorem YI(c:2<=B)(d:DM B a)(e:DM B b)(ta:Ec a)(tb:Ec b)(h:a.length<b.length):val B a<val B b:=by
 apply YS c;grind[XB]
theorem Jr(B:Nat)(ds:kQ)(k:Nat):val B (ds.take (k+1))=val B (ds.take k)+B^k*ds[k]?.getD 0:=by
 grind[A0,val_append,val,Ad]
theorem YA(B:Nat)(ds:kQ)(d:Nat):val B (ds++[d])=val B ds+B^ds.length*d:=by
 rw[val_append];simp[val]
theorem NE(c:2<=B)(h:DM B ds)(hp:ds=[]\/B^(ds.length-1)<=val B ds):Ec ds:=by
 rcases hp with rfl|hp
 . rfl
 . have a:=XZ ds;rcases AP (Jz ds).length ds.length with g|e
   . have b:=Yl (Pd h);rw[Lb]at b;have f:B^(Jz ds).length<=B^(ds.length-1):=Ag O O;omega
   . have hl:(Jz ds).length=ds.length:=O
     clear a e hp h c;unfold Ec;induction ds with
     |nil=>rfl
     |cons d ds i=>
      grind[Jz]
theorem VB(a:kQ)(c s A:Nat)(h:val B a+B^a.length*c=A):val B (a++[(c+s)%B])+B^(a.length+1)*((c+s)/B)=A+B^a.length*s:=by
 grind[YA,Nat.mod_add_div]
def Xn(a:2<=B)(h:(Jc B n).length=k)(b:k≠0):B^(k-1)<=n:=Pe a O
theorem VC(b:2<=B){a:kQ}(d:DM B a)(e:val B a=m+n)
(hl:a.length<=max (Jc B m).length (Jc B n).length\/B^(a.length-1)<=val B a)(hle:max (Jc B m).length (Jc B n).length<=a.length):a=Jc B (m+n):=by
 rw[<-e];refine(XB b d (NE b d ?_)).symm;by_cases c:a.length=0
 . grind
 . right
   rcases hl with hl|hl
   . have f:a.length=max (Jc B m).length (Jc B n).length:=O
     rcases Nat.le_total (Jc B m).length (Jc B n).length with h|h
     . have:=Xn b (n:=n) (k:=a.length) O c;omega
     . have:=Xn b (n:=m) (k:=a.length) O c;omega
   . exact hl
def Ed(d:Nat):UInt8:=UInt8.ofNat (48+d)
def EA(ds:kQ):List UInt8:=(ds.map Ed).reverse
def Xz(n:Nat):List UInt8:=if n=0 then [48]else EA (Jc 10 n)
def Xl(z:Int):List UInt8:=if z<0 then 45::Xz z.natAbs else Xz z.natAbs
def NF(ds:kQ)(d:Nat):EA (ds++[d])=Ed d::EA ds:=by simp[EA]
theorem Ph(ds:kQ):(EA ds).length=ds.length:=by simp[EA]
def X0(ds:kQ)(i k n:Nat)(D:kQ):Prop:=
 D.length=4*i+k/\DM 10 D/\k<=4/\n=ds[i]?.getD 0/10^k/\val 10 D+10^(4*i+k)*n=val 10000 (ds.take i)+10000^i*ds[i]?.getD 0/\(i+1<ds.length\/k=0\/10^(k-1)<=ds[i]?.getD 0)
def NG(i:Nat):(10:Nat)^(4*i)=10000^i:=by rw[Fz]
def X0.start(hl:D.length=4*i)(a:DM 10 D)(b:val 10 D=val 10000 (ds.take i)):X0 ds i 0 (ds[i]?.getD 0) D:=by
 refine⟨O,a,O,DK,?_,Ax (Am J)⟩;rw[Cb,NG,b]
theorem X0.step(h:X0 ds i k n D)(j:k<4)(g:0<n\/i+1<ds.length):X0 ds i (k+1) (n/10) (D++[n%10]):=by
 obtain⟨c,a,d,b,e,f⟩:=h;refine⟨by simp;omega,a.append (DM.cons (AZ _ O) (DM.nil _)),O,?_,?_,?_⟩
 . rw[b,Nat.div_div_eq_div_mul,<-Cc]
 . grind[YA,Nat.mod_add_div]
 grind[Nat.div_pos_iff]
theorem X0.next(h:X0 ds i 4 n D)(c:DM 10000 ds):D.length=4*(i+1)/\DM 10 D/\val 10 D=val 10000 (ds.take (i+1)):=by
 obtain⟨e,f,g,a,j,k⟩:=h;have b:=c.getD O i;have d:n=0:=by rw[a];exact A3 (by simpa using b)
 grind[Jr]
def X0.last(h:X0 ds i k 0 D)(r:i+1=ds.length):D.length<=4*ds.length/\DM 10 D/\val 10 D=val 10000 ds/\(val 10000 ds≠0->Ec ds->D=Jc 10 (val 10000 ds)):=by
 obtain⟨g,b,q,j,l,a⟩:=h;have e:val 10 D=val 10000 ds:=by
  have:=Jr 10000 ds i;rw[Ad O]at this;rw[this,<-l];simp
 refine⟨O,b,e,λt p=>?_⟩;rw[<-e];refine(XB O b (NE O b ?_)).symm;have u:ds[i]?.getD 0≠0:=by
  intro c;have m:ds=ds.take i++[0]:=by
   conv=>lhs;rw[<-A8 i ds,AV (by omega:i<ds.length)]
   rw[AN O];rw[Aq O]at c;have f:ds[i]=0:=c;rw[f]
  have n:(Jz ds).length<=i:=by
   rw[m,YR];have:=XZ (ds.take i);rw[Ah]at this;omega
  rw[p]at n;omega
 right
 rw[g,e];have s:k≠0:=by
  intro o;subst o;simp at j;omega
 rcases a with a|a|a
 . omega
 . omega
 . have:=Jr 10000 ds i;rw[Ad O]at this;rw[this];have d:(10:Nat)^(4*i+k-1)=10000^i*10^(k-1):=by
    rw[<-NG,<-CK];congr 1;omega
   rw[d];have:=Ai (10000^i) a;omega
theorem Lc(h:n≠0):Xz n=EA (Jc 10 n):=by simp[Xz,h]
def DW(c:UInt8):Bool:=decide (48<=c.toNat)&&decide (c.toNat<=57)
def Dq(l:List UInt8):kQ:=(l.map λc=>c.toNat-48).reverse
def num(l:List UInt8):Nat:=val 10 (Dq l)
def JU(l:List UInt8):List UInt8:=if l.head?=some 45 then l.tail else l
def good(l:List UInt8):Bool:=decide (l.length<=2000) && !(JU l).isEmpty&&(!decide ((JU l).head?=some 48) || decide (l=[48]))&&(JU l).all DW
def Xg(l:List UInt8):Int:=if l.head?=some 45 then -(num (JU l):Int)else num (JU l)
theorem YV(h:DW c=true):48<=c.toNat/\c.toNat<=57:=by simpa[DW]using h
theorem IP(h:d<10):(Ed d).toNat=48+d:=by
 unfold Ed;rw[UInt8.toNat_ofNat'];omega
theorem VD(h:DW c=true):Ed (c.toNat-48)=c:=by
 grind[YV,Fo,IP]
def VE(l:List UInt8)(c:UInt8):Dq (l++[c])=(c.toNat-48)::Dq l:=by simp[Dq]
theorem NH(l:List UInt8)(c:UInt8):num (l++[c])=(c.toNat-48)+10*num l:=by rw[num,VE,Yc];rfl
def VF(a b:List UInt8):Dq (a++b)=Dq b++Dq a:=by simp[Dq]
theorem I0(l:List UInt8):(Dq l).length=l.length:=by simp[Dq]
theorem I1(a b:List UInt8):num (a++b)=num b+10^b.length*num a:=by rw[num,VF,val_append,I0];rfl
theorem KY(h:l.all DW=true):DM 10 (Dq l):=by
 intro d a;grind[Dq,YV]
theorem VG(h:l.all DW=true):EA (Dq l)=l:=by
 simp only[EA,Dq,List.map_reverse,List.reverse_reverse,List.map_map];conv=>rhs;rw[<-List.map_id l]
 grind[CE,VD]
theorem VH(b:DW c=true)(a:c≠48):Ec (Dq (c::l)):=by
 have e:Dq (c::l)=Dq l++[c.toNat-48]:=by simp[Dq]
 rw[e];refine XC _ ?_;have:=YV b;intro h;apply a;apply Fo.1;grind
theorem NI(h:(c::l).all DW=true)(a:c≠48):Xz (num (c::l))=c::l/\num (c::l)≠0:=by
 grind[XB,KY,VH,num,JD,I0,Lc,VG]
theorem Pi(h:good l=true):Xl (Xg l)=l:=by
 simp only[good,AX,BZ,Bool.or_eq_true,CF,Bs]at h;obtain⟨⟨⟨_,j⟩,f⟩,a⟩:=h;cases e:JU l with
 |nil=>grind
 |cons c t=>
  rw[e]at f a;by_cases b:c=48
  . grind[Xg,JU,Xl,Xz,num,Dq,val]
  . obtain⟨g,i⟩:=NI a b;by_cases d:l.head?=some 45
    . have hl:l=45::c::t:=by
       cases l with
       |nil=>simp at d
       |cons x l'=>
        grind[JU]
      grind[Xg,Xl]
    grind[JU,Xg,Xl]
def VI(h:DM 10 ds):(EA ds).all DW=true:=by
 rw[AG];intro c a;simp only[EA,List.mem_reverse,List.mem_map]at a;obtain⟨d,b,rfl⟩:=a;have:=h d b;simp[DW,IP this];omega
def VJ(h:DM 10 ds):num (EA ds)=val 10 ds:=by
 have e:Dq (EA ds)=ds:=by
  simp only[EA,Dq,List.map_reverse,List.reverse_reverse,List.map_map];conv=>rhs;rw[<-List.map_id ds]
  apply CE;intro d a;have:=h d a;simp[IP this]
 rw[num,e]
theorem Ld(j:n≠0):∃c t,Xz n=c::t/\c≠48/\c≠45/\(c::t).all DW=true/\num (c::t)=n:=by
 have a:=Jo (B:=10) O n;have k:=Yr (B:=10) O n;have q:=Jp (B:=10) O n;have m:Jc 10 n≠[]:=by rw[Ne,JF O];exact j
 have f:=VI a;have b:=VJ a;have e:Xz n=EA (Jc 10 n):=Lc j;rw[q]at b;obtain⟨ds,d,p⟩:∃ds d,Jc 10 n=ds++[d]:=⟨_,_,(List.dropLast_concat_getLast m).symm⟩;rw[p]at f b e k a;rw[NF]at f b e;have r:d≠0:=by
  intro o;subst o;have g:(Jz (ds++[0])).length<=ds.length:=by rw[YR];exact XZ ds
  rw[k]at g;simp at g;omega
 have l:d<10:=a d DK;have i:=IP l;refine⟨Ed d,EA ds,e,?_,?_,f,b⟩
 . intro h;rw[h]at i;grind
 . intro h;rw[h]at i;grind
theorem VK(h:(Xl z).length<=2000):good (Xl z)=true/\Xg (Xl z)=z:=by
 by_cases a:z.natAbs=0
 . have:z=0:=O
   subst this;simp[Xl,Xz,good,Xg,JU,num,Dq,val,DW]
 . obtain⟨c,t,e,d,b,f,g⟩:=Ld a;grind[Xl,good,JU,Xg]
theorem VL(a:10<=B):(Jc B n).length<=(Jc 10 n).length:=by
 refine JO O ?_;have h:=Yl (Jo (B:=10) O n);grind[Jp,Ap,Cs]
theorem VM(h:good l=true)(a:10<=B):(Jc B (Xg l).natAbs).length<=2000:=by
 grind[Pi,good,VL,JD,Lc,Ph,Xl]
def KZ(u u1 d1 d0 q r:Nat):Prop:=
 q*d1+r=u/\(u*4294967296+u1)/(d1*4294967296+d0)<=q/\q<=4294967297/\r<4294967296
theorem Pj(b:2147483648<=d1)(c:d1<4294967296)(a:d0<4294967296)(i:u1<4294967296)(g:u<d1*4294967296+d0):
 KZ u u1 d1 d0 (u/d1) (u%d1):=by
 have e:=A4 u d1;have f:u%d1<d1:=AZ _ O;have d:d1*(u/d1)=u/d1*d1:=AB _ _;refine⟨O,?_,?_,O⟩
 . apply CO;rw[AF O];grind
 . apply CO;rw[AF O];omega
theorem Pk(h:KZ u u1 d1 d0 q r)(d:0<d1)(c:q*d0<=4294967296*r+u1):q=(u*4294967296+u1)/(d1*4294967296+d0):=by
 obtain⟨a,b,_,_⟩:=h;grind[FE,Fa]
theorem Pl(h:KZ u u1 d1 d0 q r)(i:2147483648<=d1)(k:u1<4294967296)(j:u<d1*4294967296+d0)(a:4294967296<=q\/4294967296*r+u1<q*d0):
 1<=q/\(q-1)*d1+(r+d1)=u/\(u*4294967296+u1)/(d1*4294967296+d0)<=q-1/\q-1<=4294967296:=by
 obtain⟨b,c,d,f⟩:=h;have hq:1<=q:=by
  rcases a with a|a
  . omega
  . grind
 have e:(q-1)*d1+d1=q*d1:=by
  conv=>rhs;rw[show q=q-1+1 from by omega,AR,Fg]
 refine⟨hq,O,?_,O⟩;apply CO;rw[Nat.succ_eq_add_one,Nat.sub_add_cancel hq,AF O];rcases a with a|a
 . have g:4294967296*(d1*4294967296+d0)<=q*(d1*4294967296+d0):=Af _ a;omega
 grind
def Le(d:q*d1+r=u)(a:(u*4294967296+u1)/(d1*4294967296+d0)<=q)(b:q<=4294967296)(c:d0<4294967296)(f:0<d1)(g:4294967296<=r):q=(u*4294967296+u1)/(d1*4294967296+d0):=by
 apply FE _ a;rw[Fa O,Fc,<-Ch];have e:q*d0<=4294967296*d0:=Af _ b;omega
def Pm{t un0:Nat}(a:0<d):t/d*k+(t%d*k+un0)/d=(t*k+un0)/d/\(t%d*k+un0)%d=(t*k+un0)%d:=by
 have b:=A4 t d;have e:t*k+un0=d*(t/d*k)+(t%d*k+un0):=by
  conv=>lhs;rw[<-b,AR,Ch]
  omega
 rw[e,Nat.mul_add_div a,Nat.mul_add_mod];exact⟨J,J⟩
def VN{a s:Nat}:(a*2^s)/(y*2^s)=a/y/\(a*2^s)%(y*2^s)=a%y*2^s:=
 ⟨Nat.mul_div_mul_right _ _ (Ca s),Nat.mul_mod_mul_right _ _ _⟩
def Lf(B u u1 d1 d0 q r:Nat):Prop:=
 q*d1+r=u/\(u*B+u1)/(d1*B+d0)<=q/\q<B/\r<B
theorem VO(a:0<d1)(f:d1<B)(j:u1<B)(c:u<d1*B):Lf B u u1 d1 d0 (u/d1) (u%d1):=by
 have g:=A4 u d1;have i:u%d1<d1:=AZ _ a;have e:d1*(u/d1)=u/d1*d1:=AB _ _;have hp:0<d1*B:=DI a O;refine⟨O,?_,?_,O⟩
 . apply CO;rw[AF O,Nat.succ_eq_add_one];have b:(u/d1+1)*(d1*B+d0)=(u/d1*d1+d1)*B+(u/d1+1)*d0:=DX
   rw[b];have d:(u+1)*B<=(u/d1*d1+d1)*B:=Af _ O;grind
 . rw[AF a,AB];exact c
def NJ(a:q*d1+r=u)(b:(u*B+u1)/(d1*B+d0)<=q)(d:0<d1*B)(c:q*d0<=r*B+u1):q=(u*B+u1)/(d1*B+d0):=by
 apply FE _ b;rw[Fa O,Fc,<-Ch,<-a,AR];omega
def VQ(h:Lf B u u1 d1 d0 q r)(i:0<d1*B)(c:r*B+u1<q*d0):
 1<=q/\(q-1)*d1+(r+d1)=u/\(u*B+u1)/(d1*B+d0)<=q-1/\q-1<B:=by
 obtain⟨b,d,f,g⟩:=h;have hq:1<=q:=by
  rcases AW q with a|a
  . rw[a]at c;omega
  . exact a
 have e:(q-1)*d1+d1=q*d1:=by
  rw[<-Nat.succ_mul];congr 1;omega
 refine⟨hq,O,?_,O⟩;apply CO;rw[Nat.succ_eq_add_one,Nat.sub_add_cancel hq,AF O,Fc,<-Ch,<-b,AR];omega
def VR(a:q*d1+r=u)(b:(u*B+u1)/(d1*B+d0)<=q)(f:q<B)(e:d0<B)(c:0<d1*B)(d:B<=r):q=(u*B+u1)/(d1*B+d0):=by
 apply NJ a b c;have g:q*d0<=B*d0:=Af _ O;have i:B*d0<=B*B:=Ai _ O;have j:B*B<=r*B:=Af _ d;omega
def Gd(R V g:Nat):Prop:=R<(g+1)*V/\g*V<=R+V
theorem VS{T:Nat}(l:R=T*E+lo)(a:V=o*E+lo2)(j:lo<E)(k:lo2<E)(p:T/o<=o)(d:0<o):Gd R V (T/o):=by
 have m:=A4 T o;have n:=AZ T d;generalize T/o=g at *;generalize T%o=t at *;have b:(T+1)*E<=(o*g+o)*E:=Af _ O;have e:(g+1)*V=(o*g+o)*E+(g+1)*lo2:=by rw[a];grind
 have f:g*lo2<=g*E:=Ai _ O;have c:(o*g+g)*E<=(T+o)*E:=Af _ O;have i:g*V=o*g*E+g*lo2:=by rw[a];grind
 rw[AR]at b c;refine⟨?_,?_⟩
 . omega
 grind
theorem VT(a:R=d1*(B*E)+lo)(b:V=d1*E+lo2)(f:lo2<E)(j:B<=2*d1)(i:R<V*B)(g:2<=B):Gd R V (B-1):=by
 refine⟨DX,?_⟩;obtain⟨c,rfl⟩:∃c,B=c+2:=⟨B-2,O⟩;rw[show c+2-1=c+1 from by omega,AR,Fg];apply Nat.add_le_add_right;rw[a,b,Fc];have d:c*lo2<=c*E:=Ai _ O;have e:c*E<=2*d1*E:=Af _ O;grind
theorem VU(h:Gd R V g)(hq:q+V*g=R):g=R/V/\q=R%V:=by
 have hg:g*V=V*g:=AB _ _;have a:=h.1;rw[AR,Fg]at a;have b:q<V:=O
 grind[CZ,A3,CC,Ci]
theorem VV{P q2 c2:Nat}(h:Gd R V g)(hq:q+V*g=R+P)(l:q<P)(j:q2+P*c2=q+V)(k:q2<P)(f:c2<=1):1<=g/\g-1=R/V/\q2=R%V:=by
 have c:=h.2;have hg:g*V=V*g:=AB _ _;have i:1<=g:=by
  rcases AW g with a|a
  . rw[a]at hq;omega
  . exact a
 have e:V*(g-1)+V=V*g:=by rw[<-Nat.mul_succ];congr 1;omega
 have b:c2=1:=by
  rcases(by omega:c2=0\/c2=1)with a|a
  . subst a;omega
  . exact a
 subst b;have d:q2+V*(g-1)=R:=O
 have m:q2<V:=O
 grind[CZ,A3,CC,Ci]
def Dw(x y:Nat):Nat:=(x-y)+(y-x)
def F4(H L:Nat)(s:Int)(h l c nb b a:Nat):Prop:=
 (s=1\/s=-1)/\H=nb*l+a*h/\L=c*l+b*h/\(c:Int)*a-nb*b=s/\b<=a/\c+b<=nb+a/\1<=a/\l<=h
def F4.start(h:L<=H):F4 H L 1 H L 1 0 0 1:=
 ⟨Am J,O,O,O,O,O,O,h⟩
theorem F4.step{l nb:Nat}(hs:F4 H L s h l o nb v w)(hl:1<=l):
 F4 H L (-s) l (h%l) v w (o+h/l*v) (nb+h/l*w):=by
 obtain⟨m,b,c,n,a,p,t,u⟩:=hs;have d:=A4 h l;have hq:1<=h/l:=(Fa O).2 O;have x:h%l<l:=AZ _ O;generalize h/l=q at *;generalize h%l=r at *;subst d;have f:q*v<=q*w:=Ai q a;have g:v<=q*v:=Cg v hq;have i:w<=q*w:=Cg w hq;have j:(q-1)*v<=(q-1)*w:=Ai _ a;have k:(q-1)*v+v=q*v:=by
  rw[<-Nat.succ_mul];congr 1;omega
 have e:(q-1)*w+w=q*w:=by
  rw[<-Nat.succ_mul];congr 1;omega
 refine⟨O,by rw[b];grind,by rw[c];grind,?_,O,O,O,O⟩;grind
def F4.small{l nb:Nat}(hs:F4 H L s h l o nb v w)(hl:1<=l):nb+w<=H/\o+v<=L:=by
 obtain⟨e,f,g,i,j,k,m,n⟩:=hs;have a:nb<=nb*l:=A6 nb hl;have b:w<=w*h:=A6 w O;have c:o<=o*l:=A6 o hl;have d:v<=v*h:=A6 v O;omega
def Gm(A B b c a nb:Nat):Prop:=
 A=c*Dw (a*A) (nb*B)+nb*Dw (b*A) (c*B)/\B=b*Dw (a*A) (nb*B)+a*Dw (b*A) (c*B)/\
 Dw (a*A) (nb*B)<Dw (b*A) (c*B)/\1<=nb
def Pn{x:Nat}(a:0<=z)(h:z=(x:Int)-y\/z=(y:Int)-x):(Dw x y:Int)=z:=by
 unfold Dw;omega
theorem F4.out{S al be l nb:Nat}(hs:F4 H L s h l o nb v w)(E:A=H*S+al)(F:B=L*S+be)(n:al<S)(p:be<S)
(hl:w<=l)(G:nb+w<=h-l):Gm A B o nb v w:=by
 obtain⟨m,x,y,c,z,C,D,K⟩:=hs;have j:(H:Int)=nb*l+w*h:=by rw[x];push_cast;rfl
 have k:(L:Int)=o*l+v*h:=by rw[y];push_cast;rfl
 have g:(A:Int)=H*S+al:=by rw[E];push_cast;rfl
 have i:(B:Int)=L*S+be:=by rw[F];push_cast;rfl
 have b:s*s=1:=DX
 obtain⟨X,d⟩:∃X:Int,X=s*(o*A-nb*B):=⟨_,J⟩;obtain⟨a,e⟩:∃a:Int,a=-s*(v*A-w*B):=⟨_,J⟩;have x1:X=(h:Int)*S+s*(o*al-nb*be):=by
  have:X=(s*(o*w-nb*v))*h*S+s*(o*al-nb*be):=by rw[d,g,i,j,k];grind
  rw[this,c,b];grind
 have q:a=(l:Int)*S-s*(v*al-w*be):=by
  have:a=(s*(o*w-nb*v))*l*S-s*(v*al-w*be):=by rw[e,g,i,j,k];grind
  rw[this,c,b];grind
 have c1:(v:Int)*al<=w*al:=by exact_mod_cast Af al z
 have c2:(w:Int)*al<w*S:=by exact_mod_cast C8 n O
 have c3:(w:Int)*be<w*S:=by exact_mod_cast C8 p O
 have c4:(w:Int)*S<=l*S:=by exact_mod_cast Af S hl
 have d1:((o+v:Nat):Int)*al<=(nb+w:Nat)*al:=by exact_mod_cast Af al C
 have r:((nb+w:Nat):Int)*al<(nb+w:Nat)*S:=by exact_mod_cast C8 n O
 have t:((nb+w:Nat):Int)*be<(nb+w:Nat)*S:=by exact_mod_cast C8 p O
 have f:((nb+w:Nat):Int)*S<=(h-l:Nat)*S:=by exact_mod_cast Af S G
 have u:((h-l:Nat):Int)=h-l:=O
 rw[u]at f;simp only[Int.natCast_add,Int.add_mul,Int.sub_mul]at d1 r t f;have p1:(0:Int)<=w*be:=by exact_mod_cast As _
 have P:(0:Int)<=v*al:=by exact_mod_cast As _
 have Q:(0:Int)<=o*al:=by exact_mod_cast As _
 have R:(0:Int)<=nb*be:=by exact_mod_cast As _
 have N:0<a:=by
  rw[q];rcases m with rfl|rfl<;>omega
 have M:a<X:=by
  rw[x1,q];rcases m with rfl|rfl<;>omega
 have ex:(Dw (o*A) (nb*B):Int)=X:=Pn O DX;have I:(Dw (v*A) (w*B):Int)=a:=Pn O DX;refine⟨?_,?_,O,D⟩
 . have:(A:Int)=nb*a+w*X:=by
    have:(nb:Int)*a+w*X=(s*(o*w-nb*v))*A:=by rw[d,e];grind
    rw[this,c,b];omega
   grind
 . have:(B:Int)=o*a+v*X:=by
    have:(o:Int)*a+v*X=(s*(o*w-nb*v))*B:=by rw[d,e];grind
    rw[this,c,b];omega
   grind
theorem Gm.gcd{A B b c a nb:Nat}(h:Gm A B b c a nb):Nat.gcd (Dw (b*A) (c*B)) (Dw (a*A) (nb*B))=Nat.gcd A B:=by
 obtain⟨d,e,_,_⟩:=h;apply Nat.dvd_antisymm
 . grind[C7,CN,Nat.dvd_gcd,Nat.dvd_add]
 grind[C7,CN,Dw,Nat.dvd_add,Nat.dvd_sub,Nat.dvd_gcd]
def Gm.less{nb:Nat}(h:Gm A B o v w nb)(hp:v≠0)(g:0<B):Dw (o*A) (v*B)+Dw (w*A) (nb*B)<A+B:=by
 obtain⟨c,d,e,f⟩:=h;have a:Dw (w*A) (nb*B)<=v*Dw (w*A) (nb*B):=Cg _ O;have b:Dw (o*A) (v*B)<=nb*Dw (o*A) (v*B):=Cg _ O;omega
def Xy(f:UInt8->Bool)(l:List UInt8)(i:Nat):Nat:=i+((l.drop i).takeWhile f).length
def DO(l:List UInt8)(i:Nat):Nat:=Xy (·==32) l i
def EB(l:List UInt8)(i:Nat):Nat:=Xy DW l i
theorem VW(d:n<=l.length)(a:∀k (h:k<n),f l[k]=true)(e:∀h:n<l.length,f l[n]=false):(l.takeWhile f).length=n:=by
 induction l generalizing n with
 |nil=>simp at d ⊢;omega
 |cons c t g=>
  cases n with
  |zero=>
   grind[List.takeWhile_cons_of_neg]
  |succ n=>
   have:=a 0 O;simp at this;rw[List.takeWhile_cons_of_pos this,Ak,g (n:=n) (by simpa using d) (λk b=>a (k+1) O) λb=>e (by simpa using b)]
theorem Lg(d:i<=j)(e:j<=l.length)(b:∀k (h:k<l.length),i<=k->k<j->f l[k]=true)(c:∀h:j<l.length,f l[j]=false):Xy f l i=j:=by
 unfold Xy;rw[VW (n:=j-i) DX]
 . omega
 . intro k a;grind
 . intro a;grind
theorem NK(f:UInt8->Bool)(l:List UInt8):(l.takeWhile f).length<=l.length/\(∀k (h:k<l.length),k<(l.takeWhile f).length->f l[k]=true)/\∀h:(l.takeWhile f).length<l.length,f (l[(l.takeWhile f).length]'h)=false:=by
 induction l with
 |nil=>simp
 |cons c t b=>
  by_cases a:f c=true
  . grind[List.takeWhile_cons_of_pos]
  grind[List.takeWhile_cons_of_neg]
def NL(f:UInt8->Bool)(l:List UInt8)(i:Nat):i<=Xy f l i:=Nat.le_add_right _ _
theorem NM(a:i<=l.length):Xy f l i<=l.length:=by
 grind[NK,Xy]
theorem VX(b:i<=k)(a:k<Xy f l i)(h:k<l.length):f l[k]=true:=by
 have:=(NK f (l.drop i)).2.1 (k-i) DX (by unfold Xy at a;omega);grind
theorem NN(h:Xy f l i<l.length):f (l[Xy f l i]'h)=false:=by
 grind[Xy,NK]
def VY(f:UInt8->Bool)(l:List UInt8)(i:Nat):Xy f l (Xy f l i)=Xy f l i:=by
 rcases AP (Xy f l i) l.length with h|h
 . exact Lg (Aa _) O (λk _ b c=>by omega) λa=>NN a
 . unfold Xy;rw[show i+((l.drop i).takeWhile f).length=Xy f l i from J,AN h];rfl
def Yd(l:List UInt8)(j:Nat)(c:UInt8):Bool:=l[j]?==some c
abbrev Rd(α:Type):=EStateM.Result Nat Nat α
def J2(l:List UInt8)(i:Nat):Rd (List UInt8 × Nat):=
 if EB l (DO l i)=DO l i then .error 2 (DO l i)
 else if 12<EB l (DO l i)-DO l i then .error 3 (DO l i)
 else .ok (((l.drop (DO l i)).take (EB l (DO l i)-DO l i)),DO l i) (EB l (DO l i))
def Yv(l:List UInt8)(i:Nat):Rd Rat:=
 match J2 l i with
 |.error e p=>.error e p
 |.ok (ds,_) k=>
  if Yd l (DO l k) 47 then
   match J2 l (DO l k+1)with
   |.error e p=>.error e p
   |.ok (a,p) m=>if num a=0 then .error 4 p else .ok (Rat.divInt (num ds) (num a)) m
  else .ok ((num ds:Int):Rat) (DO l k)
def EO(l:List UInt8)(i:Nat):Rd Nat:=
 if Yd l (DO l i) 94 then
  match J2 l (DO l i+1)with
  |.error e p=>.error e p
  |.ok (ds,p) k=>if 8<num ds then .error 3 p else .ok (num ds) k
 else .ok 1 (DO l i)
def F5(l:List UInt8)(j:Nat):Bool:=(l[j]?.map DW).getD false
def Yg(l:List UInt8)(i:Nat):Rd (Rat × Nat):=
 if F5 l (DO l i)then
  match Yv l (DO l i)with
  |.error e p=>.error e p
  |.ok c k=>
   if Yd l (DO l k) 120 then
    match EO l (DO l k+1)with
    |.error e p=>.error e p
    |.ok n m=>.ok (c,n) m
   else .ok (c,0) (DO l k)
 else if Yd l (DO l i) 120 then
  match EO l (DO l i+1)with
  |.error e p=>.error e p
  |.ok n m=>.ok (1,n) m
 else .error 2 (DO l i)
def EP(l:List UInt8):Nat->Bool->Nat->Ja->Rd Ja
 |0,_,i,_=>.error 0 i
 |f+1,b,i,s=>
  match Yg l i with
  |.error e p=>.error e p
  |.ok (c,n) k=>
   let a:=s.set n (if b then cf s n-c else cf s n+c)
   if Yd l (DO l k) 43 then EP l f false (DO l k+1) a
   else if Yd l (DO l k) 45 then EP l f true (DO l k+1) a
   else if DO l k=l.length then .ok a (DO l k)
   else .error 2 (DO l k)
def J3(l:List UInt8):Ja × Nat × Nat:=
 if 300<l.length then([],1,0)
 else
  match (if Yd l (DO l 0) 45 then EP l (l.length+1) true (DO l 0+1) (List.replicate 9 0)else EP l (l.length+1) false (DO l 0) (List.replicate 9 0))with
  |.error e p=>([],e,p)
  |.ok s _=>(Jb s,0,0)
def Gn{ds:List UInt8}(e:i<=l.length)(h:J2 l i=.ok (ds,p) k):p=DO l i/\k=EB l p/\i<=p/\p<k/\k<=l.length/\k-p<=12/\ds=(l.drop p).take (k-p)/\ds.length=k-p/\ds.all DW=true:=by
 unfold J2 at h;split at h
 . cases h
 . split at h
   . cases h
   . rename_i j m;simp only[EStateM.Result.ok.injEq,Prod.mk.injEq]at h;obtain⟨⟨rfl,rfl⟩,rfl⟩:=h;have hs:DO l i<=l.length:=NM e;have o:DO l i<=EB l (DO l i):=NL _ _ _;have b:EB l (DO l i)<=l.length:=NM hs;have a:((l.drop (DO l i)).take (EB l (DO l i)-DO l i)).length=EB l (DO l i)-DO l i:=by rw[Ah,Cm];omega
     refine⟨J,J,NL _ _ _,O,b,O,J,a,?_⟩;rw[AG];intro c d;obtain⟨n,g,rfl⟩:=List.mem_iff_getElem.1 d;rw[a]at g;rw[List.getElem_take,List.getElem_drop];exact VX (f:=DW) (i:=DO l i) O (by show _<EB l (DO l i);omega) O
def NO{ds:List UInt8}(a:i<=l.length)(h:J2 l i=.ok (ds,p) k):i<k/\k<=l.length:=by
 have:=Gn a h;omega
theorem Ye(h:Yd l j c=true):j<l.length:=by
 grind[Yd]
theorem Ys(a:i<=l.length):DO l i<=l.length:=NM a
def GH(l:List UInt8)(i:Nat):i<=DO l i:=NL _ _ _
theorem NP{c:Rat}(f:i<=l.length)(h:Yv l i=.ok c k):i<k/\k<=l.length:=by
 unfold Yv at h;split at h
 . cases h
 . rename_i ds p g b;have d:=NO f b;have n:=GH l g;have o:=Ys d.2;split at h
   . rename_i a;have a:=Ye a;split at h
     . cases h
     . rename_i j r m e;have q:=NO O e;grind
   . cases h;omega
theorem NQ(c:i<=l.length)(h:EO l i=.ok n k):i<=k/\k<=l.length/\n<=8:=by
 unfold EO at h;have e:=GH l i;have f:=Ys c;split at h
 . rename_i a;have a:=Ye a;split at h
   . cases h
   . rename_i d j m b;have g:=NO O b;grind
 . cases h;omega
def Lh{c:Rat}(j:i<=l.length)(h:Yg l i=.ok (c,n) k):i<k/\k<=l.length/\n<=8:=by
 unfold Yg at h;have q:=GH l i;have f:=Ys j;split at h
 . split at h
   . cases h
   . rename_i c' o d;have e:=NP f d;have r:=GH l o;have s:=Ys e.2;split at h
     . rename_i a;have a:=Ye a;split at h
       . cases h
       . rename_i p m b;have g:=NQ O b;cases h;omega
     . cases h;omega
 . split at h
   . rename_i a;have a:=Ye a;split at h
     . cases h
     . rename_i p m b;have g:=NQ O b;cases h;omega
   . cases h
