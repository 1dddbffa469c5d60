import Derived.Test.YtcahejkcdcjjgaaGreatDoorS01
set_option linter.all false
set_option maxRecDepth 99999
set_option maxHeartbeats 0
namespace Go.Proofs.YtcahejkcdcjjgaaGreatDoor
def DO:=@Nat.mul_pos
def val(B:Nat):U->Nat
 |[]=>0
 |d::ds=>d+B*val B ds
def DR(B:Nat)(ds:U):Prop:=∀d∈ds,d<B
def FG(B:Nat):Nat->Nat->U
 |0,_=>[]
 |k+1,n=>if n=0\/B<2 then []else n%B::FG B k (n/B)
def Jc(B n:Nat):U:=FG B n n
theorem MP(B:Nat):∀(k n m:Nat),n<=k->n<=m->FG B k n=FG B m n
 |0,n,m,h,_=>by
  have:n=0:=Z
  subst this;cases m with
  |zero=>rfl
  |succ m=>rw[FG,FG,Br (Az J)]
 |k+1,n,0,_,h=>by
  grind[FG]
 |k+1,n,m+1,a,b=>by
  rw[FG,FG];by_cases h:n=0\/B<2
  . rw[Br h,Br h]
  . have c:n/B<n:=C4 Z Z;rw[Bk h,Bk h,MP B k (n/B) m Z Z]
def Jw:U->U
 |[]=>[]
 |d::ds=>match Jw ds with
  |[]=>if d=0 then []else [d]
  |e::es=>d::e::es
variable{s:Int}{D a b ds:U}{l:List UInt8}{A B C E L R V d d0 d1 g h i j k lo lo2 m n o p q r u u1 v w y:Nat}{c:UInt8}{f:UInt8->Bool}
theorem DR.nil(B:Nat):DR B []:=λ_ h=>by cases h
theorem DR.cons(h:d<B)(k:DR B ds):DR B (d::ds):=λx a=>by
 rcases List.mem_cons.1 a with rfl|a
 . exact h
 . exact k x a
def DR.head(h:DR B (d::ds)):d<B:=h d (Cn ..)
def DR.tail(h:DR B (d::ds)):DR B ds:=λx a=>h x (List.mem_cons_of_mem _ a)
def DR.append(h:DR B a)(k:DR B b):DR B (a++b):=λx c=>by
 rcases Cp.1 c with c|c
 . exact h x c
 . exact k x c
def DR.left(h:DR B (a++b)):DR B a:=λx c=>h x (Cp.2 (Az c))
def DR.right(h:DR B (a++b)):DR B b:=λx c=>h x (Cp.2 (AE c))
theorem Gp(B:Nat):val B []=0:=rfl
theorem JR(B d:Nat)(ds:U):val B (d::ds)=d+B*val B ds:=rfl
theorem val_append(B:Nat):∀(a b:U),val B (a++b)=val B a+B^a.length*val B b
 |[],b=>by simp[val]
 |d::a,b=>by
  simp only[Aw,JR,val_append B a b,Ag,Ce];grind
theorem JY{B:Nat}:∀ {ds:U},DR B ds->val B ds<B^ds.length
 |[],_=>by simp[val]
 |d::ds,h=>by
  have b:=h.head;have a:=JY h.tail;simp only[JR,Ag,Ce];have c:B*val B ds+B<=B*B^ds.length:=by
   rw[<-Nat.mul_succ];exact Au _ a
  grind
theorem Jz(B:Nat):Jc B 0=[]:=rfl
theorem YQ(b:2<=B)(c:n≠0):Jc B n=n%B::Jc B (n/B):=by
 unfold Jc;obtain⟨m,rfl⟩:∃m,n=m+1:=⟨n-1,Z⟩;have a:(m+1)/B<m+1:=C4 Z Z;grind[FG,MP]
theorem Jl(b:2<=B)(n:Nat):val B (Jc B n)=n:=by
 induction n using Nat.strongRecOn with
 |ind n c=>
  by_cases a:n=0
  . subst a;rw[Jz];rfl
  grind[YQ,JR,C4,Nat.mod_add_div]
theorem Jm(a:2<=B)(n:Nat):DR B (Jc B n):=by
 induction n using Nat.strongRecOn with
 |ind n b=>
  grind[Jz,DR.nil,YQ,DR.cons,AY,C4]
theorem JC(a:2<=B):Jc B n=[]↔n=0:=by
 constructor
 . intro h;have:=Jl a n;rw[h]at this;exact this.symm
 . intro h;rw[h,Jz]
theorem YI(h:Jw ds=[]):Jw (d::ds)=if d=0 then []else [d]:=by
 simp only[Jw,h]
theorem Xi(h:Jw ds≠[]):Jw (d::ds)=d::Jw ds:=by
 grind[Jw]
theorem IX(B:Nat):∀(ds:U),val B (Jw ds)=val B ds
 |[]=>rfl
 |d::ds=>by
  by_cases h:Jw ds=[]
  . have:=IX B ds;grind[YI,val]
  . rw[Xi h,JR,JR,IX B ds]
theorem JP{B:Nat}(e:2<=B):∀ {ds:U},DR B ds->Jc B (val B ds)=Jw ds
 |[],_=>by rw[Gp,Jz];rfl
 |d::ds,h=>by
  have c:=h.head;have k:=JP e h.tail;rw[JR];by_cases j:d+B*val B ds=0
  . have l:d=0:=Z
    have i:val B ds=0:=by
     rcases A5 (val B ds)with b|b
     . exact b
     . have:0<B*val B ds:=DO Z b
       omega
    grind[Jz,YI]
  . rw[YQ e j];have f:(d+B*val B ds)%B=d:=by rw[Ck];exact Cf c
    have g:(d+B*val B ds)/B=val B ds:=by
     rw[Ct _ _ Z,A6 c,Ch]
    rw[f,g,k];by_cases a:Jw ds=[]
    . rw[YI a,a];have i:val B ds=0:=by rw[<-IX B ds,a];rfl
      grind
    . rw[Xi a]
def EF(ds:U):Prop:=Jw ds=ds
def YR(a:2<=B)(n:Nat):EF (Jc B n):=by
 have h:=JP a (Jm a n);rw[Jl a]at h;exact h.symm
theorem YD(a:2<=B)(h:DR B ds)(b:EF ds):Jc B (val B ds)=ds:=(JP a h).trans b
theorem X4:∀(ds:U) {d:Nat},d≠0->Jw (ds++[d])=ds++[d]
 |[],d,h=>by simp[Jw,h]
 |e::ds,d,h=>by
  have a:=X4 ds h;rw[Aw,Xi (by rw[a];simp),a]
theorem YJ:∀(ds:U),Jw (ds++[0])=Jw ds
 |[]=>by simp[Jw]
 |e::ds=>by
  have a:=YJ ds;grind[Jw]
theorem MQ(ds:U)(k:Nat)(n:k<=ds.length)(d:∀j,k<=j->j<ds.length->ds[j]?=some 0):Jw (ds.take k)=Jw ds:=by
 obtain⟨m,a⟩:∃m,ds.length=k+m:=⟨ds.length-k,Z⟩;induction m generalizing ds with
 |zero=>grind
 |succ m c=>
  have o:ds≠[]:=by intro e;rw[e]at a;simp at a
  have hl:ds=ds.take (k+m)++[0]:=by
   apply List.ext_getElem?;intro i;by_cases l:i<k+m
   . grind
   . grind
  have b:(ds.take (k+m)).length=k+m:=by rw[Aj];omega
  have:=c (ds.take (k+m)) Z (by
   intro j f g;grind) b
  grind[YJ]
theorem Pi(ds:U)(k:Nat)(b:k<ds.length)(c:ds[k]?≠some 0)(a:∀j,k<j->j<ds.length->ds[j]?=some 0):Jw ds=ds.take (k+1):=by
 grind[MQ,Cb,X4]
def Pj(ds:U)(a:∀j,j<ds.length->ds[j]?=some 0):Jw ds=[]:=by
 have:=MQ ds 0 Z λj _ h=>a j h;rw[<-this];simp[Jw]
def MR{B:Nat}:∀ {ds:U},DR B ds->DR B (Jw ds)
 |[],h=>h
 |d::ds,h=>by
  by_cases a:Jw ds=[]
  . rw[YI a];split
    . exact DR.nil B
    . exact DR.cons h.head (DR.nil B)
  . rw[Xi a];exact DR.cons h.head (MR h.tail)
theorem YW:∀(ds:U),(Jw ds).length<=ds.length
 |[]=>by simp[Jw]
 |d::ds=>by
  have:=YW ds;grind[Jw]
theorem JL(a:2<=B)(h:n<B^k):(Jc B n).length<=k:=by
 induction k generalizing n with
 |zero=>
  grind[Jz]
 |succ k b=>
  grind[YQ,Nat.div_lt_of_lt_mul]
def MT(b:2<=B)(h:(Jc B n).length=k+1):B^k<=n:=by
 rcases AJ n (B^k)with a|a
 . have:=JL b a;omega
 . exact a
def YK(a:2<=B)(h:(Jc B m).length<(Jc B n).length):m<n:=by
 have b:m<B^(Jc B m).length:=by
  have:=JY (Jm a m);rwa[Jl a]at this
 have c:B^((Jc B n).length-1)<=n:=MT a Z;have d:B^(Jc B m).length<=B^((Jc B n).length-1):=Am Z Z;omega
def YX(m n:Nat):Int:=if m<n then -1 else if n<m then 1 else 0
theorem MU(m:Nat):YX m m=0:=by simp[YX]
theorem GP(h:m<n):YX m n=-1:=by simp[YX,h]
theorem IY(h:n<m):YX m n=1:=by
 grind[YX]
theorem MW(ds:U)(k:Nat)(a:k<ds.length):val B ds=val B (ds.take k)+B^k*(ds[k]?.getD 0+B*val B (ds.drop (k+1))):=by
 grind[AU,Ay,val_append,JR]
def DR.take{B:Nat}{ds:U}(h:DR B ds)(k:Nat):DR B (ds.take k):=λx a=>h x (List.mem_of_mem_take a)
def DR.drop{B:Nat}{ds:U}(h:DR B ds)(k:Nat):DR B (ds.drop k):=λx a=>h x (List.mem_of_mem_drop a)
def DR.get(h:DR B ds)(a:k<ds.length):ds[k]?.getD 0<B:=by
 rw[AO a];exact h _ (List.getElem_mem a)
theorem DR.getD{B:Nat}{ds:U}(h:DR B ds)(b:0<B)(k:Nat):ds[k]?.getD 0<B:=by
 rcases AJ k ds.length with a|a
 . exact h.get a
 grind
theorem Pk(e:DR B a)(hl:a.length=b.length)(k:Nat)(g:k<a.length)(f:a.drop (k+1)=b.drop (k+1))(h:a[k]?.getD 0<b[k]?.getD 0):val B a<val B b:=by
 rw[MW a k g,MW b k Z,<-f];have c:=JY (e.take k);have d:(a.take k).length=k:=by rw[Aj];omega
 rw[d]at c;have i:B^k*(a[k]?.getD 0+B*val B (a.drop (k+1)))+B^k<=B^k*(b[k]?.getD 0+B*val B (a.drop (k+1))):=by
  rw[<-Nat.mul_succ];exact Au _ Z
 omega
theorem Pl(hl:a.length=b.length)(k:Nat)(d:k<a.length)(c:a.drop (k+1)=b.drop (k+1))(h:a[k]?.getD 0=b[k]?.getD 0):a.drop k=b.drop k:=by
 grind[Ay]
theorem YA(c:2<=B)(d:DR B a)(e:DR B b)(f:EF a)(g:EF b)(h:a.length<b.length):val B a<val B b:=by
 apply YK c;grind[YD]
theorem Jk(B:Nat)(ds:U)(k:Nat):val B (ds.take (k+1))=val B (ds.take k)+B^k*ds[k]?.getD 0:=by
 grind[Cb,val_append,val,Ad]
theorem J4(B:Nat)(ds:U)(d:Nat):val B (ds++[d])=val B ds+B^ds.length*d:=by
 rw[val_append];simp[val]
theorem Kb(c:2<=B)(h:DR B ds)(hp:ds=[]\/B^(ds.length-1)<=val B ds):EF ds:=by
 rcases hp with rfl|hp
 . rfl
 . have a:=YW ds;rcases AJ (Jw ds).length ds.length with g|e
   . have b:=JY (MR h);rw[IX]at b;have f:B^(Jw ds).length<=B^(ds.length-1):=Am Z Z;omega
   . have hl:(Jw ds).length=ds.length:=Z
     clear a e hp h c;unfold EF;induction ds with
     |nil=>rfl
     |cons d ds i=>
      grind[Jw]
theorem Pm(a:U)(c s A:Nat)(h:val B a+B^a.length*c=A):val B (a++[(c+s)%B])+B^(a.length+1)*((c+s)/B)=A+B^a.length*s:=by
 grind[J4,Nat.mod_add_div]
def Ys(a:2<=B)(h:(Jc B n).length=k)(b:k≠0):B^(k-1)<=n:=MT a Z
theorem Pn(b:2<=B){a:U}(d:DR B a)(e:val B a=m+n)
(hl:a.length<=max (Jc B m).length (Jc B n).length\/B^(a.length-1)<=val B a)(hle:max (Jc B m).length (Jc B n).length<=a.length):a=Jc B (m+n):=by
 rw[<-e];refine(YD b d (Kb b d ?_)).symm;by_cases c:a.length=0
 . grind
 . right
   rcases hl with hl|hl
   . have f:a.length=max (Jc B m).length (Jc B n).length:=Z
     rcases Nat.le_total (Jc B m).length (Jc B n).length with h|h
     . have:=Ys b (n:=n) (k:=a.length) Z c;omega
     . have:=Ys b (n:=m) (k:=a.length) Z c;omega
   . exact hl
def Ew(d:Nat):UInt8:=UInt8.ofNat (48+d)
def D9(ds:U):List UInt8:=(ds.map Ew).reverse
def Xw(n:Nat):List UInt8:=if n=0 then [48]else D9 (Jc 10 n)
def XP(z:Int):List UInt8:=if z<0 then 45::Xw z.natAbs else Xw z.natAbs
def Po(ds:U)(d:Nat):D9 (ds++[d])=Ew d::D9 ds:=by simp[D9]
theorem MX(ds:U):(D9 ds).length=ds.length:=by simp[D9]
def FM(ds:U)(i k n:Nat)(D:U):Prop:=
 D.length=4*i+k/\DR 10 D/\k<=4/\n=ds[i]?.getD 0/10^k/\val 10 D+10^(4*i+k)*n=val 10000 (ds.take i)+10000^i*ds[i]?.getD 0/\(i+1<ds.length\/k=0\/10^(k-1)<=ds[i]?.getD 0)
def Kc(i:Nat):(10:Nat)^(4*i)=10000^i:=by rw[Nat.pow_mul]
def FM.start(hl:D.length=4*i)(a:DR 10 D)(b:val 10 D=val 10000 (ds.take i)):FM ds i 0 (ds[i]?.getD 0) D:=by
 refine⟨Z,a,Z,DQ,?_,AE (Az J)⟩;rw[A4,Kc,b]
theorem FM.step(h:FM ds i k n D)(j:k<4)(g:0<n\/i+1<ds.length):FM ds i (k+1) (n/10) (D++[n%10]):=by
 obtain⟨c,a,d,b,e,f⟩:=h;refine⟨by simp;omega,a.append (DR.cons (AY _ Z) (DR.nil _)),Z,?_,?_,?_⟩
 . rw[b,Nat.div_div_eq_div_mul,<-Ce]
 . grind[J4,Nat.mod_add_div]
 grind[Nat.div_pos_iff]
theorem FM.next(h:FM ds i 4 n D)(c:DR 10000 ds):D.length=4*(i+1)/\DR 10 D/\val 10 D=val 10000 (ds.take (i+1)):=by
 obtain⟨e,f,g,a,j,k⟩:=h;have b:=c.getD Z i;have d:n=0:=by rw[a];exact A6 (by simpa using b)
 grind[Jk]
def FM.last(h:FM ds i k 0 D)(r:i+1=ds.length):D.length<=4*ds.length/\DR 10 D/\val 10 D=val 10000 ds/\(val 10000 ds≠0->EF ds->D=Jc 10 (val 10000 ds)):=by
 obtain⟨g,b,q,j,l,a⟩:=h;have e:val 10 D=val 10000 ds:=by
  have:=Jk 10000 ds i;rw[Ad Z]at this;rw[this,<-l];simp
 refine⟨Z,b,e,λt p=>?_⟩;rw[<-e];refine(YD Z b (Kb Z b ?_)).symm;have u:ds[i]?.getD 0≠0:=by
  intro c;have m:ds=ds.take i++[0]:=by
   conv=>lhs;rw[<-AU i ds,Ay (by omega:i<ds.length)]
   rw[AF Z];rw[AO Z]at c;have f:ds[i]=0:=c;rw[f]
  have n:(Jw ds).length<=i:=by
   rw[m,YJ];have:=YW (ds.take i);rw[Aj]at this;omega
  rw[p]at n;omega
 right
 rw[g,e];have s:k≠0:=by
  intro o;subst o;simp at j;omega
 rcases a with a|a|a
 . omega
 . omega
 . have:=Jk 10000 ds i;rw[Ad Z]at this;rw[this];have d:(10:Nat)^(4*i+k-1)=10000^i*10^(k-1):=by
    rw[<-Kc,<-Cu];congr 1;omega
   rw[d];have:=Au (10000^i) a;omega
theorem Kd(h:n≠0):Xw n=D9 (Jc 10 n):=by simp[Xw,h]
def DZ(c:UInt8):Bool:=decide (48<=c.toNat)&&decide (c.toNat<=57)
def Do(l:List UInt8):U:=(l.map λc=>c.toNat-48).reverse
def num(l:List UInt8):Nat:=val 10 (Do l)
def JI(l:List UInt8):List UInt8:=if l.head?=some 45 then l.tail else l
def good(l:List UInt8):Bool:=decide (l.length<=2000) && !(JI l).isEmpty&&(!decide ((JI l).head?=some 48) || decide (l=[48]))&&(JI l).all DZ
def YE(l:List UInt8):Int:=if l.head?=some 45 then -(num (JI l):Int)else num (JI l)
theorem Yj(h:DZ c=true):48<=c.toNat/\c.toNat<=57:=by simpa[DZ]using h
theorem Xb(h:d<10):(Ew d).toNat=48+d:=by
 unfold Ew;rw[UInt8.toNat_ofNat'];omega
theorem Pp(h:DZ c=true):Ew (c.toNat-48)=c:=by
 grind[Yj,CU,Xb]
def Pq(l:List UInt8)(c:UInt8):Do (l++[c])=(c.toNat-48)::Do l:=by simp[Do]
theorem Ke(l:List UInt8)(c:UInt8):num (l++[c])=(c.toNat-48)+10*num l:=by rw[num,Pq,JR];rfl
def Pr(a b:List UInt8):Do (a++b)=Do b++Do a:=by simp[Do]
theorem XF(l:List UInt8):(Do l).length=l.length:=by simp[Do]
theorem Xc(a b:List UInt8):num (a++b)=num b+10^b.length*num a:=by rw[num,Pr,val_append,XF];rfl
theorem IZ(h:l.all DZ=true):DR 10 (Do l):=by
 intro d a;grind[Do,Yj]
theorem Ps(h:l.all DZ=true):D9 (Do l)=l:=by
 simp only[D9,Do,List.map_reverse,List.reverse_reverse,List.map_map];conv=>rhs;rw[<-List.map_id l]
 grind[Cl,Pp]
theorem Pt(b:DZ c=true)(a:c≠48):EF (Do (c::l)):=by
 have e:Do (c::l)=Do l++[c.toNat-48]:=by simp[Do]
 rw[e];refine X4 _ ?_;have:=Yj b;intro h;apply a;apply CU.1;grind
theorem Kf(h:(c::l).all DZ=true)(a:c≠48):Xw (num (c::l))=c::l/\num (c::l)≠0:=by
 grind[YD,IZ,Pt,num,Jz,XF,Kd,Ps]
theorem Pv(h:good l=true):XP (YE l)=l:=by
 simp only[good,Cz,decide_eq_true_eq,Bool.or_eq_true,Cv,decide_eq_false_iff_not]at h;obtain⟨⟨⟨_,j⟩,f⟩,a⟩:=h;cases e:JI l with
 |nil=>grind
 |cons c t=>
  rw[e]at f a;by_cases b:c=48
  . grind[YE,JI,XP,Xw,num,Do,val]
  . obtain⟨g,i⟩:=Kf a b;by_cases d:l.head?=some 45
    . have hl:l=45::c::t:=by
       cases l with
       |nil=>simp at d
       |cons x k=>
        grind[JI]
      grind[YE,XP]
    grind[JI,YE,XP]
def Pw(h:DR 10 ds):(D9 ds).all DZ=true:=by
 rw[AA];intro c a;simp only[D9,List.mem_reverse,List.mem_map]at a;obtain⟨d,b,rfl⟩:=a;have:=h d b;simp[DZ,Xb this];omega
def Px(h:DR 10 ds):num (D9 ds)=val 10 ds:=by
 have e:Do (D9 ds)=ds:=by
  simp only[D9,Do,List.map_reverse,List.reverse_reverse,List.map_map];conv=>rhs;rw[<-List.map_id ds]
  apply Cl;intro d a;have:=h d a;simp[Xb this]
 rw[num,e]
theorem MY(j:n≠0):∃c t,Xw n=c::t/\c≠48/\c≠45/\(c::t).all DZ=true/\num (c::t)=n:=by
 have a:=Jm (B:=10) Z n;have k:=YR (B:=10) Z n;have q:=Jl (B:=10) Z n;have m:Jc 10 n≠[]:=by rw[Ne,JC Z];exact j
 have f:=Pw a;have b:=Px a;have e:Xw n=D9 (Jc 10 n):=Kd j;rw[q]at b;obtain⟨ds,d,p⟩:∃ds d,Jc 10 n=ds++[d]:=⟨_,_,(List.dropLast_concat_getLast m).symm⟩;rw[p]at f b e k a;rw[Po]at f b e;have r:d≠0:=by
  intro o;subst o;have g:(Jw (ds++[0])).length<=ds.length:=by rw[YJ];exact YW ds
  rw[k]at g;simp at g;omega
 have l:d<10:=a d DQ;have i:=Xb l;refine⟨Ew d,D9 ds,e,?_,?_,f,b⟩
 . intro h;rw[h]at i;grind
 . intro h;rw[h]at i;grind
theorem Py(a:10<=B):(Jc B n).length<=(Jc 10 n).length:=by
 refine JL Z ?_;have h:=JY (Jm (B:=10) Z n);grind[Jl,Ar,CM]
theorem Pz(h:good l=true)(a:10<=B):(Jc B (YE l).natAbs).length<=2000:=by
 grind[Pv,good,Py,Jz,Kd,MX,XP]
def YB(f:UInt8->Bool)(l:List UInt8)(i:Nat):Nat:=i+((l.drop i).takeWhile f).length
def DX(l:List UInt8)(i:Nat):Nat:=YB (·==32) l i
def EG(l:List UInt8)(i:Nat):Nat:=YB DZ l i
theorem P0(d:n<=l.length)(a:∀k (h:k<n),f l[k]=true)(e:∀h:n<l.length,f l[n]=false):(l.takeWhile f).length=n:=by
 induction l generalizing n with
 |nil=>simp at d ⊢;omega
 |cons c t g=>
  cases n with
  |zero=>
   grind[List.takeWhile_cons_of_neg]
  |succ n=>
   have:=a 0 Z;simp at this;rw[List.takeWhile_cons_of_pos this,Ag,g (n:=n) (by simpa using d) (λk b=>a (k+1) Z) λb=>e (by simpa using b)]
theorem Ia(d:i<=j)(e:j<=l.length)(b:∀k (h:k<l.length),i<=k->k<j->f l[k]=true)(c:∀h:j<l.length,f l[j]=false):YB f l i=j:=by
 unfold YB;rw[P0 (n:=j-i) De]
 . omega
 . intro k a;grind
 . intro a;grind
theorem XG(f:UInt8->Bool)(l:List UInt8):(l.takeWhile f).length<=l.length/\(∀k (h:k<l.length),k<(l.takeWhile f).length->f l[k]=true)/\∀h:(l.takeWhile f).length<l.length,f (l[(l.takeWhile f).length]'h)=false:=by
 induction l with
 |nil=>simp
 |cons c t b=>
  by_cases a:f c=true
  . grind[List.takeWhile_cons_of_pos]
  grind[List.takeWhile_cons_of_neg]
def Kg(f:UInt8->Bool)(l:List UInt8)(i:Nat):i<=YB f l i:=Nat.le_add_right _ _
theorem Kh(a:i<=l.length):YB f l i<=l.length:=by
 grind[XG,YB]
theorem P1(b:i<=k)(a:k<YB f l i)(h:k<l.length):f l[k]=true:=by
 have:=(XG f (l.drop i)).2.1 (k-i) De (by unfold YB at a;omega);grind
theorem Ki(h:YB f l i<l.length):f (l[YB f l i]'h)=false:=by
 grind[YB,XG]
def P2(f:UInt8->Bool)(l:List UInt8)(i:Nat):YB f l (YB f l i)=YB f l i:=by
 rcases AJ (YB f l i) l.length with h|h
 . exact Ia (Aa _) Z (λk _ b c=>by omega) λa=>Ki a
 . unfold YB;rw[show i+((l.drop i).takeWhile f).length=YB f l i from J,AF h];rfl
def YY(l:List UInt8)(j:Nat)(c:UInt8):Bool:=l[j]?==some c
abbrev Rd(α:Type):=EStateM.Result Nat Nat α
def Xd(l:List UInt8)(i:Nat):Rd (List UInt8 × Nat):=
 if EG l (DX l i)=DX l i then .error 2 (DX l i)
 else if 12<EG l (DX l i)-DX l i then .error 3 (DX l i)
 else .ok (((l.drop (DX l i)).take (EG l (DX l i)-DX l i)),DX l i) (EG l (DX l i))
def YF(l:List UInt8)(i:Nat):Rd Rat:=
 match Xd l i with
 |.error e p=>.error e p
 |.ok (ds,_) k=>
  if YY l (DX l k) 47 then
   match Xd l (DX l k+1)with
   |.error e p=>.error e p
   |.ok (a,p) m=>if num a=0 then .error 4 p else .ok (Rat.divInt (num ds) (num a)) m
  else .ok ((num ds:Int):Rat) (DX l k)
def EU(l:List UInt8)(i:Nat):Rd Nat:=
 if YY l (DX l i) 94 then
  match Xd l (DX l i+1)with
  |.error e p=>.error e p
  |.ok (ds,p) k=>if 8<num ds then .error 3 p else .ok (num ds) k
 else .ok 1 (DX l i)
def El(l:List UInt8)(j:Nat):Bool:=(l[j]?.map DZ).getD false
def Yg(l:List UInt8)(i:Nat):Rd (Rat × Nat):=
 if El l (DX l i)then
  match YF l (DX l i)with
  |.error e p=>.error e p
  |.ok c k=>
   if YY l (DX l k) 120 then
    match EU l (DX l k+1)with
    |.error e p=>.error e p
    |.ok n m=>.ok (c,n) m
   else .ok (c,0) (DX l k)
 else if YY l (DX l i) 120 then
  match EU l (DX l i+1)with
  |.error e p=>.error e p
  |.ok n m=>.ok (1,n) m
 else .error 2 (DX l i)
def EA(l:List UInt8):Nat->Bool->Nat->Y->Rd Y
 |0,_,i,_=>.error 0 i
 |f+1,b,i,s=>
  match Yg l i with
  |.error e p=>.error e p
  |.ok (c,n) k=>
   let a:=s.set n (if b then cf s n-c else cf s n+c)
   if YY l (DX l k) 43 then EA l f false (DX l k+1) a
   else if YY l (DX l k) 45 then EA l f true (DX l k+1) a
   else if DX l k=l.length then .ok a (DX l k)
   else .error 2 (DX l k)
def JW(l:List UInt8):Y × Nat × Nat:=
 if 300<l.length then([],1,0)
 else
  match (if YY l (DX l 0) 45 then EA l (l.length+1) true (DX l 0+1) (List.replicate 9 0)else EA l (l.length+1) false (DX l 0) (List.replicate 9 0))with
  |.error e p=>([],e,p)
  |.ok s _=>(Jh s,0,0)
def Fv{ds:List UInt8}(e:i<=l.length)(h:Xd l i=.ok (ds,p) k):p=DX l i/\k=EG l p/\i<=p/\p<k/\k<=l.length/\k-p<=12/\ds=(l.drop p).take (k-p)/\ds.length=k-p/\ds.all DZ=true:=by
 unfold Xd at h;split at h
 . cases h
 . split at h
   . cases h
   . rename_i j m;simp only[EStateM.Result.ok.injEq,Prod.mk.injEq]at h;obtain⟨⟨rfl,rfl⟩,rfl⟩:=h;have hs:DX l i<=l.length:=Kh e;have o:DX l i<=EG l (DX l i):=Kg _ _ _;have b:EG l (DX l i)<=l.length:=Kh hs;have a:((l.drop (DX l i)).take (EG l (DX l i)-DX l i)).length=EG l (DX l i)-DX l i:=by rw[Aj,AW];omega
     refine⟨J,J,Kg _ _ _,Z,b,Z,J,a,?_⟩;rw[AA];intro c d;obtain⟨n,g,rfl⟩:=List.mem_iff_getElem.1 d;rw[a]at g;rw[List.getElem_take,List.getElem_drop];exact P1 (f:=DZ) (i:=DX l i) Z (by show _<EG l (DX l i);omega) Z
def Kj{ds:List UInt8}(a:i<=l.length)(h:Xd l i=.ok (ds,p) k):i<k/\k<=l.length:=by
 have:=Fv a h;omega
theorem Yp(h:YY l j c=true):j<l.length:=by
 grind[YY]
theorem Xo(a:i<=l.length):DX l i<=l.length:=Kh a
def GQ(l:List UInt8)(i:Nat):i<=DX l i:=Kg _ _ _
theorem MZ{c:Rat}(f:i<=l.length)(h:YF l i=.ok c k):i<k/\k<=l.length:=by
 unfold YF at h;split at h
 . cases h
 . rename_i ds p g b;have d:=Kj f b;have n:=GQ l g;have o:=Xo d.2;split at h
   . rename_i a;have a:=Yp a;split at h
     . cases h
     . rename_i j r m e;have q:=Kj Z e;grind
   . cases h;omega
theorem Ma(c:i<=l.length)(h:EU l i=.ok n k):i<=k/\k<=l.length/\n<=8:=by
 unfold EU at h;have e:=GQ l i;have f:=Xo c;split at h
 . rename_i a;have a:=Yp a;split at h
   . cases h
   . rename_i d j m b;have g:=Kj Z b;grind
 . cases h;omega
def Mb{c:Rat}(j:i<=l.length)(h:Yg l i=.ok (c,n) k):i<k/\k<=l.length/\n<=8:=by
 unfold Yg at h;have q:=GQ l i;have f:=Xo j;split at h
 . split at h
   . cases h
   . rename_i c' o d;have e:=MZ f d;have r:=GQ l o;have s:=Xo e.2;split at h
     . rename_i a;have a:=Yp a;split at h
       . cases h
       . rename_i p m b;have g:=Ma Z b;cases h;omega
     . cases h;omega
 . split at h
   . rename_i a;have a:=Yp a;split at h
     . cases h
     . rename_i p m b;have g:=Ma Z b;cases h;omega
   . cases h
def Gq(u u1 d1 d0 q r:Nat):Prop:=
 q*d1+r=u/\(u*4294967296+u1)/(d1*4294967296+d0)<=q/\q<=4294967297/\r<4294967296
theorem Mc(b:2147483648<=d1)(c:d1<4294967296)(a:d0<4294967296)(i:u1<4294967296)(g:u<d1*4294967296+d0):
 Gq u u1 d1 d0 (u/d1) (u%d1):=by
 have e:=A0 u d1;have f:u%d1<d1:=AY _ Z;have d:d1*(u/d1)=u/d1*d1:=AK _ _;refine⟨Z,?_,?_,Z⟩
 . apply CW;rw[AD Z];grind
 . apply CW;rw[AD Z];omega
theorem Md(h:Gq u u1 d1 d0 q r)(d:0<d1)(c:q*d0<=4294967296*r+u1):q=(u*4294967296+u1)/(d1*4294967296+d0):=by
 obtain⟨a,b,_,_⟩:=h;grind[Nat.le_antisymm,CV]
theorem Me(h:Gq u u1 d1 d0 q r)(j:2147483648<=d1)(l:u1<4294967296)(k:u<d1*4294967296+d0)(a:4294967296<=q\/4294967296*r+u1<q*d0):
 1<=q/\(q-1)*d1+(r+d1)=u/\(u*4294967296+u1)/(d1*4294967296+d0)<=q-1/\q-1<=4294967296:=by
 obtain⟨c,d,f,g⟩:=h;have b:1<=q:=by
  rcases a with a|a
  . omega
  . grind
 have e:(q-1)*d1+d1=q*d1:=by
  conv=>rhs;rw[show q=q-1+1 from by omega,AL,C5]
 refine⟨b,Z,?_,Z⟩;apply CW;rw[Nat.succ_eq_add_one,Nat.sub_add_cancel b,AD Z];rcases a with a|a
 . have i:4294967296*(d1*4294967296+d0)<=q*(d1*4294967296+d0):=Ac _ a;omega
 grind
def XR(d:q*d1+r=u)(a:(u*4294967296+u1)/(d1*4294967296+d0)<=q)(b:q<=4294967296)(c:d0<4294967296)(f:0<d1)(g:4294967296<=r):q=(u*4294967296+u1)/(d1*4294967296+d0):=by
 apply Nat.le_antisymm _ a;rw[CV Z,CY,<-A9];have e:q*d0<=4294967296*d0:=Ac _ b;omega
def Mf{t un0:Nat}(a:0<d):t/d*k+(t%d*k+un0)/d=(t*k+un0)/d/\(t%d*k+un0)%d=(t*k+un0)%d:=by
 have b:=A0 t d;have e:t*k+un0=d*(t/d*k)+(t%d*k+un0):=by
  conv=>lhs;rw[<-b,AL,A9]
  omega
 rw[e,Nat.mul_add_div a,Nat.mul_add_mod];exact⟨J,J⟩
def P3{a s:Nat}:(a*2^s)/(y*2^s)=a/y/\(a*2^s)%(y*2^s)=a%y*2^s:=
 ⟨Nat.mul_div_mul_right _ _ (A2 s),Nat.mul_mod_mul_right _ _ _⟩
def Ib(B u u1 d1 d0 q r:Nat):Prop:=
 q*d1+r=u/\(u*B+u1)/(d1*B+d0)<=q/\q<B/\r<B
theorem P4(a:0<d1)(f:d1<B)(j:u1<B)(c:u<d1*B):Ib B u u1 d1 d0 (u/d1) (u%d1):=by
 have g:=A0 u d1;have i:u%d1<d1:=AY _ a;have e:d1*(u/d1)=u/d1*d1:=AK _ _;have hp:0<d1*B:=DO a Z;refine⟨Z,?_,?_,Z⟩
 . apply CW;rw[AD Z,Nat.succ_eq_add_one];have b:(u/d1+1)*(d1*B+d0)=(u/d1*d1+d1)*B+(u/d1+1)*d0:=De
   rw[b];have d:(u+1)*B<=(u/d1*d1+d1)*B:=Ac _ Z;grind
 . rw[AD a,AK];exact c
def Kk(a:q*d1+r=u)(b:(u*B+u1)/(d1*B+d0)<=q)(d:0<d1*B)(c:q*d0<=r*B+u1):q=(u*B+u1)/(d1*B+d0):=by
 apply Nat.le_antisymm _ b;rw[CV Z,CY,<-A9,<-a,AL];omega
def P5(h:Ib B u u1 d1 d0 q r)(j:0<d1*B)(d:r*B+u1<q*d0):
 1<=q/\(q-1)*d1+(r+d1)=u/\(u*B+u1)/(d1*B+d0)<=q-1/\q-1<B:=by
 obtain⟨c,f,g,i⟩:=h;have b:1<=q:=by
  rcases A5 q with a|a
  . rw[a]at d;omega
  . exact a
 have e:(q-1)*d1+d1=q*d1:=by
  rw[<-Nat.succ_mul];congr 1;omega
 refine⟨b,Z,?_,Z⟩;apply CW;rw[Nat.succ_eq_add_one,Nat.sub_add_cancel b,AD Z,CY,<-A9,<-c,AL];omega
def P6(a:q*d1+r=u)(b:(u*B+u1)/(d1*B+d0)<=q)(f:q<B)(e:d0<B)(c:0<d1*B)(d:B<=r):q=(u*B+u1)/(d1*B+d0):=by
 apply Kk a b c;have g:q*d0<=B*d0:=Ac _ Z;have i:B*d0<=B*B:=Au _ Z;have j:B*B<=r*B:=Ac _ d;omega
def FH(R V g:Nat):Prop:=R<(g+1)*V/\g*V<=R+V
theorem P7{T:Nat}(l:R=T*E+lo)(a:V=o*E+lo2)(j:lo<E)(k:lo2<E)(p:T/o<=o)(d:0<o):FH R V (T/o):=by
 have m:=A0 T o;have n:=AY T d;generalize T/o=g at *;generalize T%o=t at *;have b:(T+1)*E<=(o*g+o)*E:=Ac _ Z;have e:(g+1)*V=(o*g+o)*E+(g+1)*lo2:=by rw[a];grind
 have f:g*lo2<=g*E:=Au _ Z;have c:(o*g+g)*E<=(T+o)*E:=Ac _ Z;have i:g*V=o*g*E+g*lo2:=by rw[a];grind
 rw[AL]at b c;refine⟨?_,?_⟩
 . omega
 grind
theorem P8(a:R=d1*(B*E)+lo)(b:V=d1*E+lo2)(f:lo2<E)(j:B<=2*d1)(i:R<V*B)(g:2<=B):FH R V (B-1):=by
 refine⟨De,?_⟩;obtain⟨c,rfl⟩:∃c,B=c+2:=⟨B-2,Z⟩;rw[show c+2-1=c+1 from by omega,AL,C5];apply AR;rw[a,b,CY];have d:c*lo2<=c*E:=Au _ Z;have e:c*E<=2*d1*E:=Ac _ Z;grind
theorem P9(h:FH R V g)(b:q+V*g=R):g=R/V/\q=R%V:=by
 have hg:g*V=V*g:=AK _ _;have a:=h.1;rw[AL,C5]at a;have c:q<V:=Z
 grind[Ct,A6,Ck,Cf]
theorem QA{P q2 c2:Nat}(h:FH R V g)(c:q+V*g=R+P)(m:q<P)(k:q2+P*c2=q+V)(l:q2<P)(i:c2<=1):1<=g/\g-1=R/V/\q2=R%V:=by
 have d:=h.2;have hg:g*V=V*g:=AK _ _;have j:1<=g:=by
  rcases A5 g with a|a
  . rw[a]at c;omega
  . exact a
 have e:V*(g-1)+V=V*g:=by rw[<-Nat.mul_succ];congr 1;omega
 have b:c2=1:=by
  rcases(by omega:c2=0\/c2=1)with a|a
  . subst a;omega
  . exact a
 subst b;have f:q2+V*(g-1)=R:=Z
 have n:q2<V:=Z
 grind[Ct,A6,Ck,Cf]
def Y8(x y:Nat):Nat:=(x-y)+(y-x)
def Em(d L:Nat)(s:Int)(h l c nb b a:Nat):Prop:=
 (s=1\/s=-1)/\d=nb*l+a*h/\L=c*l+b*h/\(c:Int)*a-nb*b=s/\b<=a/\c+b<=nb+a/\1<=a/\l<=h
def Em.start(h:L<=o):Em o L 1 o L 1 0 0 1:=
 ⟨Az J,Z,Z,Z,Z,Z,Z,h⟩
theorem Em.step{l nb:Nat}(hs:Em o L s h l v nb w C)(hl:1<=l):
 Em o L (-s) l (h%l) w C (v+h/l*w) (nb+h/l*C):=by
 obtain⟨n,c,d,p,a,t,u,x⟩:=hs;have e:=A0 h l;have b:1<=h/l:=(CV Z).2 Z;have y:h%l<l:=AY _ Z;generalize h/l=q at *;generalize h%l=r at *;subst e;have g:q*w<=q*C:=Au q a;have i:w<=q*w:=Cc w b;have j:C<=q*C:=Cc C b;have k:(q-1)*w<=(q-1)*C:=Au _ a;have m:(q-1)*w+w=q*w:=by
  rw[<-Nat.succ_mul];congr 1;omega
 have f:(q-1)*C+C=q*C:=by
  rw[<-Nat.succ_mul];congr 1;omega
 refine⟨Z,by rw[c];grind,by rw[d];grind,?_,Z,Z,Z,Z⟩;grind
def Em.small{l nb:Nat}(hs:Em o L s h l v nb w C)(hl:1<=l):nb+C<=o/\v+w<=L:=by
 obtain⟨e,f,g,i,j,k,m,n⟩:=hs;have a:nb<=nb*l:=Ci nb hl;have b:C<=C*h:=Ci C Z;have c:v<=v*l:=Ci v hl;have d:w<=w*h:=Ci w Z;omega
def FN(A B b c a nb:Nat):Prop:=
 A=c*Y8 (a*A) (nb*B)+nb*Y8 (b*A) (c*B)/\B=b*Y8 (a*A) (nb*B)+a*Y8 (b*A) (c*B)/\
 Y8 (a*A) (nb*B)<Y8 (b*A) (c*B)/\1<=nb
def Mg{x:Nat}{z:Int}(a:0<=z)(h:z=(x:Int)-y\/z=(y:Int)-x):(Y8 x y:Int)=z:=by
 unfold Y8;omega
theorem Em.out{S al be l nb:Nat}(hs:Em o L s h l v nb w C)(E:A=o*S+al)(F:B=L*S+be)(m:al<S)(n:be<S)
(hl:C<=l)(G:nb+C<=h-l):FN A B v nb w C:=by
 obtain⟨k,u,x,b,y,z,D,I⟩:=hs;have i:(o:Int)=nb*l+C*h:=by rw[u];push_cast;rfl
 have j:(L:Int)=v*l+w*h:=by rw[x];push_cast;rfl
 have f:(A:Int)=o*S+al:=by rw[E];push_cast;rfl
 have g:(B:Int)=L*S+be:=by rw[F];push_cast;rfl
 have a:s*s=1:=De
 obtain⟨X,c⟩:∃X:Int,X=s*(v*A-nb*B):=⟨_,J⟩;obtain⟨Y,d⟩:∃Y:Int,Y=-s*(w*A-C*B):=⟨_,J⟩;have x1:X=(h:Int)*S+s*(v*al-nb*be):=by
  have:X=(s*(v*C-nb*w))*h*S+s*(v*al-nb*be):=by rw[c,f,g,i,j];grind
  rw[this,b,a];grind
 have p:Y=(l:Int)*S-s*(w*al-C*be):=by
  have:Y=(s*(v*C-nb*w))*l*S-s*(w*al-C*be):=by rw[d,f,g,i,j];grind
  rw[this,b,a];grind
 have c1:(w:Int)*al<=C*al:=by exact_mod_cast Ac al y
 have c2:(C:Int)*al<C*S:=by exact_mod_cast CB m Z
 have c3:(C:Int)*be<C*S:=by exact_mod_cast CB n Z
 have c4:(C:Int)*S<=l*S:=by exact_mod_cast Ac S hl
 have d1:((v+w:Nat):Int)*al<=(nb+C:Nat)*al:=by exact_mod_cast Ac al z
 have q:((nb+C:Nat):Int)*al<(nb+C:Nat)*S:=by exact_mod_cast CB m Z
 have r:((nb+C:Nat):Int)*be<(nb+C:Nat)*S:=by exact_mod_cast CB n Z
 have e:((nb+C:Nat):Int)*S<=(h-l:Nat)*S:=by exact_mod_cast Ac S G
 have t:((h-l:Nat):Int)=h-l:=Z
 rw[t]at e;simp only[Int.natCast_add,Int.add_mul,Int.sub_mul]at d1 q r e;have p1:(0:Int)<=C*be:=by exact_mod_cast AN _
 have N:(0:Int)<=w*al:=by exact_mod_cast AN _
 have P:(0:Int)<=v*al:=by exact_mod_cast AN _
 have Q:(0:Int)<=nb*be:=by exact_mod_cast AN _
 have M:0<Y:=by
  rw[p];rcases k with rfl|rfl<;>omega
 have K:Y<X:=by
  rw[x1,p];rcases k with rfl|rfl<;>omega
 have ex:(Y8 (v*A) (nb*B):Int)=X:=Mg Z De;have H:(Y8 (w*A) (C*B):Int)=Y:=Mg Z De;refine⟨?_,?_,Z,D⟩
 . have:(A:Int)=nb*Y+C*X:=by
    have:(nb:Int)*Y+C*X=(s*(v*C-nb*w))*A:=by rw[c,d];grind
    rw[this,b,a];omega
   grind
 . have:(B:Int)=v*Y+w*X:=by
    have:(v:Int)*Y+w*X=(s*(v*C-nb*w))*B:=by rw[c,d];grind
    rw[this,b,a];omega
   grind
theorem FN.gcd{A B b c a nb:Nat}(h:FN A B b c a nb):Nat.gcd (Y8 (b*A) (c*B)) (Y8 (a*A) (nb*B))=Nat.gcd A B:=by
 obtain⟨d,e,_,_⟩:=h;apply Nat.dvd_antisymm
 . grind[Nat.gcd_dvd_left,Nat.gcd_dvd_right,Nat.dvd_gcd,Nat.dvd_add]
 grind[Nat.gcd_dvd_left,Nat.gcd_dvd_right,Y8,Nat.dvd_add,Nat.dvd_sub,Nat.dvd_gcd]
def FN.less{nb:Nat}(h:FN A B o v w nb)(hp:v≠0)(g:0<B):Y8 (o*A) (v*B)+Y8 (w*A) (nb*B)<A+B:=by
 obtain⟨c,d,e,f⟩:=h;have a:Y8 (w*A) (nb*B)<=v*Y8 (w*A) (nb*B):=Cc _ Z;have b:Y8 (o*A) (v*B)<=nb*Y8 (o*A) (v*B):=Cc _ Z;omega
