import Derived.Test.YtcahejkcdcjjgaaGreatDoorU01
set_option linter.all false
set_option maxRecDepth 99999
set_option maxHeartbeats 0
namespace Go.Proofs.YtcahejkcdcjjgaaGreatDoor
def B3:=@Nat.mul_pos
def Bg:=@decide_eq_false_iff_not
def BV:=@decide_eq_true_eq
def val(B:Nat):Ta->Nat
 |[]=>0
 |d::ds=>d+B*val B ds
def B7(B:Nat)(ds:Ta):Prop:=∀d∈ds,d<B
def EF(B:Nat):Nat->Nat->Ta
 |0,_=>[]
 |k+1,n=>if n=0\/B<2 then []else n%B::EF B k (n/B)
def Jb(B n:Nat):Ta:=EF B n n
theorem Kf(B:Nat):∀(k n m:Nat),n<=k->n<=m->EF B k n=EF B m n
 |0,n,m,h,_=>by
  have:n=0:=Y
  subst this;cases m with
  |zero=>rfl
  |succ m=>rw[EF,EF,BH (Ao J)]
 |k+1,n,0,_,h=>by
  grind[EF]
 |k+1,n,m+1,a,b=>by
  rw[EF,EF];by_cases h:n=0\/B<2
  . rw[BH h,BH h]
  . have c:n/B<n:=C0 Y Y;rw[BE h,BE h,Kf B k (n/B) m Y Y]
def Jq:Ta->Ta
 |[]=>[]
 |d::ds=>match Jq ds with
  |[]=>if d=0 then []else [d]
  |e::es=>d::e::es
variable{s z:Int}{D a b ds:Ta}{l:List UInt8}{A B C E F R V d d0 d1 g h i j k lo lo2 m n o p q r u u1 v w y:Nat}{c:UInt8}{f:UInt8->Bool}
theorem B7.nil(B:Nat):B7 B []:=λ_ h=>by cases h
theorem B7.cons(h:d<B)(k:B7 B ds):B7 B (d::ds):=λx a=>by
 rcases List.mem_cons.1 a with rfl|a
 . exact h
 . exact k x a
def B7.head(h:B7 B (d::ds)):d<B:=h d (A7 ..)
def B7.tail(h:B7 B (d::ds)):B7 B ds:=λx a=>h x (List.mem_cons_of_mem _ a)
def B7.append(h:B7 B a)(k:B7 B b):B7 B (a++b):=λx c=>by
 rcases Co.1 c with c|c
 . exact h x c
 . exact k x c
def B7.left(h:B7 B (a++b)):B7 B a:=λx c=>h x (Co.2 (Ao c))
def B7.right(h:B7 B (a++b)):B7 B b:=λx c=>h x (Co.2 (Ax c))
theorem Fl(B:Nat):val B []=0:=rfl
theorem JQ(B d:Nat)(ds:Ta):val B (d::ds)=d+B*val B ds:=rfl
theorem val_append(B:Nat):∀(a b:Ta),val B (a++b)=val B a+B^a.length*val B b
 |[],b=>by simp[val]
 |d::a,b=>by
  simp only[Az,JQ,val_append B a b,Ag,A9];grind
theorem JV{B:Nat}:∀ {ds:Ta},B7 B ds->val B ds<B^ds.length
 |[],_=>by simp[val]
 |d::ds,h=>by
  have b:=h.head;have a:=JV h.tail;simp only[JQ,Ag,A9];have c:B*val B ds+B<=B*B^ds.length:=by
   rw[<-Nat.mul_succ];exact Aq _ a
  grind
theorem Jy(B:Nat):Jb B 0=[]:=rfl
theorem YR(b:2<=B)(c:n≠0):Jb B n=n%B::Jb B (n/B):=by
 unfold Jb;obtain⟨m,rfl⟩:∃m,n=m+1:=⟨n-1,Y⟩;have a:(m+1)/B<m+1:=C0 Y Y;grind[EF,Kf]
theorem Jj(b:2<=B)(n:Nat):val B (Jb B n)=n:=by
 induction n using Nat.strongRecOn with
 |ind n c=>
  by_cases a:n=0
  . subst a;rw[Jy];rfl
  grind[YR,JQ,C0,Nat.mod_add_div]
theorem Ji(a:2<=B)(n:Nat):B7 B (Jb B n):=by
 induction n using Nat.strongRecOn with
 |ind n b=>
  grind[Jy,B7.nil,YR,B7.cons,AJ,C0]
theorem Jw(a:2<=B):Jb B n=[]↔n=0:=by
 constructor
 . intro h;have:=Jj a n;rw[h]at this;exact this.symm
 . intro h;rw[h,Jy]
theorem YL(h:Jq ds=[]):Jq (d::ds)=if d=0 then []else [d]:=by
 simp only[Jq,h]
theorem Xf(h:Jq ds≠[]):Jq (d::ds)=d::Jq ds:=by
 grind[Jq]
theorem GL(B:Nat):∀(ds:Ta),val B (Jq ds)=val B ds
 |[]=>rfl
 |d::ds=>by
  by_cases h:Jq ds=[]
  . have:=GL B ds;grind[YL,val]
  . rw[Xf h,JQ,JQ,GL B ds]
theorem JM{B:Nat}(e:2<=B):∀ {ds:Ta},B7 B ds->Jb B (val B ds)=Jq ds
 |[],_=>by rw[Fl,Jy];rfl
 |d::ds,h=>by
  have c:=h.head;have k:=JM e h.tail;rw[JQ];by_cases j:d+B*val B ds=0
  . have l:d=0:=Y
    have i:val B ds=0:=by
     rcases AE (val B ds)with b|b
     . exact b
     . have:0<B*val B ds:=B3 Y b
       omega
    grind[Jy,YL]
  . rw[YR e j];have f:(d+B*val B ds)%B=d:=by rw[Cj];exact Ca c
    have g:(d+B*val B ds)/B=val B ds:=by
     rw[Cy _ _ Y,AY c,Cp]
    rw[f,g,k];by_cases a:Jq ds=[]
    . rw[YL a,a];have i:val B ds=0:=by rw[<-GL B ds,a];rfl
      grind
    . rw[Xf a]
def Dg(ds:Ta):Prop:=Jq ds=ds
def JY(a:2<=B)(n:Nat):Dg (Jb B n):=by
 have h:=JM a (Ji a n);rw[Jj a]at h;exact h.symm
theorem YH(a:2<=B)(h:B7 B ds)(b:Dg ds):Jb B (val B ds)=ds:=(JM a h).trans b
theorem YI:∀(ds:Ta) {d:Nat},d≠0->Jq (ds++[d])=ds++[d]
 |[],d,h=>by simp[Jq,h]
 |e::ds,d,h=>by
  have a:=YI ds h;rw[Az,Xf (by rw[a];simp),a]
theorem Yd:∀(ds:Ta),Jq (ds++[0])=Jq ds
 |[]=>by simp[Jq]
 |e::ds=>by
  have a:=Yd ds;grind[Jq]
theorem Kg(ds:Ta)(k:Nat)(n:k<=ds.length)(d:∀j,k<=j->j<ds.length->ds[j]?=some 0):Jq (ds.take k)=Jq ds:=by
 obtain⟨m,a⟩:∃m,ds.length=k+m:=⟨ds.length-k,Y⟩;induction m generalizing ds with
 |zero=>grind
 |succ m c=>
  have o:ds≠[]:=by intro e;rw[e]at a;simp at a
  have hl:ds=ds.take (k+m)++[0]:=by
   apply List.ext_getElem?;intro i;by_cases l:i<k+m
   . grind
   . grind
  have b:(ds.take (k+m)).length=k+m:=by rw[Ae];omega
  have:=c (ds.take (k+m)) Y (by
   intro j f g;grind) b
  grind[Yd]
theorem Nh(ds:Ta)(k:Nat)(b:k<ds.length)(c:ds[k]?≠some 0)(a:∀j,k<j->j<ds.length->ds[j]?=some 0):Jq ds=ds.take (k+1):=by
 grind[Kg,AM,YI]
def Ni(ds:Ta)(a:∀j,j<ds.length->ds[j]?=some 0):Jq ds=[]:=by
 have:=Kg ds 0 Y λj _ h=>a j h;rw[<-this];simp[Jq]
def Kh{B:Nat}:∀ {ds:Ta},B7 B ds->B7 B (Jq ds)
 |[],h=>h
 |d::ds,h=>by
  by_cases a:Jq ds=[]
  . rw[YL a];split
    . exact B7.nil B
    . exact B7.cons h.head (B7.nil B)
  . rw[Xf a];exact B7.cons h.head (Kh h.tail)
theorem YV:∀(ds:Ta),(Jq ds).length<=ds.length
 |[]=>by simp[Jq]
 |d::ds=>by
  have:=YV ds;grind[Jq]
theorem JE(a:2<=B)(h:n<B^k):(Jb B n).length<=k:=by
 induction k generalizing n with
 |zero=>
  grind[Jy]
 |succ k b=>
  grind[YR,Nat.div_lt_of_lt_mul]
def Ki(b:2<=B)(h:(Jb B n).length=k+1):B^k<=n:=by
 rcases AH n (B^k)with a|a
 . have:=JE b a;omega
 . exact a
def Ye(a:2<=B)(h:(Jb B m).length<(Jb B n).length):m<n:=by
 have b:m<B^(Jb B m).length:=by
  have:=JV (Ji a m);rwa[Jj a]at this
 have c:B^((Jb B n).length-1)<=n:=Ki a Y;have d:B^(Jb B m).length<=B^((Jb B n).length-1):=Al Y Y;omega
def Yt(m n:Nat):Int:=if m<n then -1 else if n<m then 1 else 0
theorem Hb(m:Nat):Yt m m=0:=by simp[Yt]
theorem Xg(h:m<n):Yt m n=-1:=by simp[Yt,h]
theorem FQ(h:n<m):Yt m n=1:=by
 grind[Yt]
theorem Kj(ds:Ta)(k:Nat)(a:k<ds.length):val B ds=val B (ds.take k)+B^k*(ds[k]?.getD 0+B*val B (ds.drop (k+1))):=by
 grind[AQ,AD,val_append,JQ]
def B7.take{B:Nat}{ds:Ta}(h:B7 B ds)(k:Nat):B7 B (ds.take k):=λx a=>h x (CW a)
def B7.drop{B:Nat}{ds:Ta}(h:B7 B ds)(k:Nat):B7 B (ds.drop k):=λx a=>h x (List.mem_of_mem_drop a)
def B7.get(h:B7 B ds)(a:k<ds.length):ds[k]?.getD 0<B:=by
 rw[Aj a];exact h _ (List.getElem_mem a)
theorem B7.getD{B:Nat}{ds:Ta}(h:B7 B ds)(b:0<B)(k:Nat):ds[k]?.getD 0<B:=by
 rcases AH k ds.length with a|a
 . exact h.get a
 grind
theorem Hc(e:B7 B a)(hl:a.length=b.length)(k:Nat)(g:k<a.length)(f:a.drop (k+1)=b.drop (k+1))(h:a[k]?.getD 0<b[k]?.getD 0):val B a<val B b:=by
 rw[Kj a k g,Kj b k Y,<-f];have c:=JV (e.take k);have d:(a.take k).length=k:=by rw[Ae];omega
 rw[d]at c;have i:B^k*(a[k]?.getD 0+B*val B (a.drop (k+1)))+B^k<=B^k*(b[k]?.getD 0+B*val B (a.drop (k+1))):=by
  rw[<-Nat.mul_succ];exact Aq _ Y
 omega
theorem Kk(hl:a.length=b.length)(k:Nat)(d:k<a.length)(c:a.drop (k+1)=b.drop (k+1))(h:a[k]?.getD 0=b[k]?.getD 0):a.drop k=b.drop k:=by
 grind[AD]
theorem J5(c:2<=B)(d:B7 B a)(e:B7 B b)(f:Dg a)(g:Dg b)(h:a.length<b.length):val B a<val B b:=by
 apply Ye c;grind[YH]
theorem Jl(B:Nat)(ds:Ta)(k:Nat):val B (ds.take (k+1))=val B (ds.take k)+B^k*ds[k]?.getD 0:=by
 grind[AM,val_append,val,Ac]
theorem J1(B:Nat)(ds:Ta)(d:Nat):val B (ds++[d])=val B ds+B^ds.length*d:=by
 rw[val_append];simp[val]
theorem Hd(c:2<=B)(h:B7 B ds)(hp:ds=[]\/B^(ds.length-1)<=val B ds):Dg ds:=by
 rcases hp with rfl|hp
 . rfl
 . have a:=YV ds;rcases AH (Jq ds).length ds.length with g|e
   . have b:=JV (Kh h);rw[GL]at b;have f:B^(Jq ds).length<=B^(ds.length-1):=Al Y Y;omega
   . have hl:(Jq ds).length=ds.length:=Y
     clear a e hp h c;unfold Dg;induction ds with
     |nil=>rfl
     |cons d ds i=>
      grind[Jq]
theorem Nj(a:Ta)(c s A:Nat)(h:val B a+B^a.length*c=A):val B (a++[(c+s)%B])+B^(a.length+1)*((c+s)/B)=A+B^a.length*s:=by
 grind[J1,Nat.mod_add_div]
def Yz(a:2<=B)(h:(Jb B n).length=k)(b:k≠0):B^(k-1)<=n:=Ki a Y
theorem Nk(b:2<=B){a:Ta}(d:B7 B a)(e:val B a=m+n)
(hl:a.length<=max (Jb B m).length (Jb B n).length\/B^(a.length-1)<=val B a)(hle:max (Jb B m).length (Jb B n).length<=a.length):a=Jb B (m+n):=by
 rw[<-e];refine(YH b d (Hd b d ?_)).symm;by_cases c:a.length=0
 . grind
 . right
   rcases hl with hl|hl
   . have f:a.length=max (Jb B m).length (Jb B n).length:=Y
     rcases Nat.le_total (Jb B m).length (Jb B n).length with h|h
     . have:=Yz b (n:=n) (k:=a.length) Y c;omega
     . have:=Yz b (n:=m) (k:=a.length) Y c;omega
   . exact hl
def D7(d:Nat):UInt8:=UInt8.ofNat (48+d)
def Dk(ds:Ta):List UInt8:=(ds.map D7).reverse
def J8(n:Nat):List UInt8:=if n=0 then [48]else Dk (Jb 10 n)
def Yn(z:Int):List UInt8:=if z<0 then 45::J8 z.natAbs else J8 z.natAbs
def Nl(ds:Ta)(d:Nat):Dk (ds++[d])=D7 d::Dk ds:=by simp[Dk]
theorem Kl(ds:Ta):(Dk ds).length=ds.length:=by simp[Dk]
def EN(ds:Ta)(i k n:Nat)(D:Ta):Prop:=
 D.length=4*i+k/\B7 10 D/\k<=4/\n=ds[i]?.getD 0/10^k/\val 10 D+10^(4*i+k)*n=val 10000 (ds.take i)+10000^i*ds[i]?.getD 0/\(i+1<ds.length\/k=0\/10^(k-1)<=ds[i]?.getD 0)
def He(i:Nat):(10:Nat)^(4*i)=10000^i:=by rw[Nat.pow_mul]
def EN.start(hl:D.length=4*i)(a:B7 10 D)(b:val 10 D=val 10000 (ds.take i)):EN ds i 0 (ds[i]?.getD 0) D:=by
 refine⟨Y,a,Y,B5,?_,Ax (Ao J)⟩;rw[AV,He,b]
theorem EN.step(h:EN ds i k n D)(j:k<4)(g:0<n\/i+1<ds.length):EN ds i (k+1) (n/10) (D++[n%10]):=by
 obtain⟨c,a,d,b,e,f⟩:=h;refine⟨by simp;omega,a.append (B7.cons (AJ _ Y) (B7.nil _)),Y,?_,?_,?_⟩
 . rw[b,Nat.div_div_eq_div_mul,<-A9]
 . grind[J1,Nat.mod_add_div]
 grind[Nat.div_pos_iff]
theorem EN.next(h:EN ds i 4 n D)(c:B7 10000 ds):D.length=4*(i+1)/\B7 10 D/\val 10 D=val 10000 (ds.take (i+1)):=by
 obtain⟨e,f,g,a,j,k⟩:=h;have b:=c.getD Y i;have d:n=0:=by rw[a];exact AY (by simpa using b)
 grind[Jl]
def EN.last(h:EN ds i k 0 D)(r:i+1=ds.length):D.length<=4*ds.length/\B7 10 D/\val 10 D=val 10000 ds/\(val 10000 ds≠0->Dg ds->D=Jb 10 (val 10000 ds)):=by
 obtain⟨g,b,q,j,l,a⟩:=h;have e:val 10 D=val 10000 ds:=by
  have:=Jl 10000 ds i;rw[Ac Y]at this;rw[this,<-l];simp
 refine⟨Y,b,e,λt p=>?_⟩;rw[<-e];refine(YH Y b (Hd Y b ?_)).symm;have u:ds[i]?.getD 0≠0:=by
  intro c;have m:ds=ds.take i++[0]:=by
   conv=>lhs;rw[<-AQ i ds,AD (by omega:i<ds.length)]
   rw[AA Y];rw[Aj Y]at c;have f:ds[i]=0:=c;rw[f]
  have n:(Jq ds).length<=i:=by
   rw[m,Yd];have:=YV (ds.take i);rw[Ae]at this;omega
  rw[p]at n;omega
 right
 rw[g,e];have s:k≠0:=by
  intro o;subst o;simp at j;omega
 rcases a with a|a|a
 . omega
 . omega
 . have:=Jl 10000 ds i;rw[Ac Y]at this;rw[this];have d:(10:Nat)^(4*i+k-1)=10000^i*10^(k-1):=by
    rw[<-He,<-Cz];congr 1;omega
   rw[d];have:=Aq (10000^i) a;omega
theorem Hf(h:n≠0):J8 n=Dk (Jb 10 n):=by simp[J8,h]
def DC(c:UInt8):Bool:=decide (48<=c.toNat)&&decide (c.toNat<=57)
def DR(l:List UInt8):Ta:=(l.map λc=>c.toNat-48).reverse
def num(l:List UInt8):Nat:=val 10 (DR l)
def JF(l:List UInt8):List UInt8:=if l.head?=some 45 then l.tail else l
def good(l:List UInt8):Bool:=decide (l.length<=2000) && !(JF l).isEmpty&&(!decide ((JF l).head?=some 48) || decide (l=[48]))&&(JF l).all DC
def YA(l:List UInt8):Int:=if l.head?=some 45 then -(num (JF l):Int)else num (JF l)
theorem Yh(h:DC c=true):48<=c.toNat/\c.toNat<=57:=by simpa[DC]using h
theorem Xa(h:d<10):(D7 d).toNat=48+d:=by
 unfold D7;rw[UInt8.toNat_ofNat'];omega
theorem Nm(h:DC c=true):D7 (c.toNat-48)=c:=by
 grind[Yh,CU,Xa]
def Nn(l:List UInt8)(c:UInt8):DR (l++[c])=(c.toNat-48)::DR l:=by simp[DR]
theorem Hg(l:List UInt8)(c:UInt8):num (l++[c])=(c.toNat-48)+10*num l:=by rw[num,Nn,JQ];rfl
def Np(a b:List UInt8):DR (a++b)=DR b++DR a:=by simp[DR]
theorem Xw(l:List UInt8):(DR l).length=l.length:=by simp[DR]
theorem Xb(a b:List UInt8):num (a++b)=num b+10^b.length*num a:=by rw[num,Np,val_append,Xw];rfl
theorem GM(h:l.all DC=true):B7 10 (DR l):=by
 intro d a;grind[DR,Yh]
theorem Nq(h:l.all DC=true):Dk (DR l)=l:=by
 simp only[Dk,DR,List.map_reverse,List.reverse_reverse,List.map_map];conv=>rhs;rw[<-List.map_id l]
 grind[Ck,Nm]
theorem Nr(b:DC c=true)(a:c≠48):Dg (DR (c::l)):=by
 have e:DR (c::l)=DR l++[c.toNat-48]:=by simp[DR]
 rw[e];refine YI _ ?_;have:=Yh b;intro h;apply a;apply CU.1;grind
theorem Hh(h:(c::l).all DC=true)(a:c≠48):J8 (num (c::l))=c::l/\num (c::l)≠0:=by
 grind[YH,GM,Nr,num,Jy,Xw,Hf,Nq]
theorem Ns(h:good l=true):Yn (YA l)=l:=by
 simp only[good,AF,BV,Bool.or_eq_true,Cl,Bg]at h;obtain⟨⟨⟨_,j⟩,f⟩,a⟩:=h;cases e:JF l with
 |nil=>grind
 |cons c t=>
  rw[e]at f a;by_cases b:c=48
  . grind[YA,JF,Yn,J8,num,DR,val]
  . obtain⟨g,i⟩:=Hh a b;by_cases d:l.head?=some 45
    . have hl:l=45::c::t:=by
       cases l with
       |nil=>simp at d
       |cons x k=>
        grind[JF]
      grind[YA,Yn]
    grind[JF,YA,Yn]
def Nt(h:B7 10 ds):(Dk ds).all DC=true:=by
 rw[Am];intro c a;simp only[Dk,List.mem_reverse,List.mem_map]at a;obtain⟨d,b,rfl⟩:=a;have:=h d b;simp[DC,Xa this];omega
def Nu(h:B7 10 ds):num (Dk ds)=val 10 ds:=by
 have e:DR (Dk ds)=ds:=by
  simp only[Dk,DR,List.map_reverse,List.reverse_reverse,List.map_map];conv=>rhs;rw[<-List.map_id ds]
  apply Ck;intro d a;have:=h d a;simp[Xa this]
 rw[num,e]
theorem X0(j:n≠0):∃c t,J8 n=c::t/\c≠48/\c≠45/\(c::t).all DC=true/\num (c::t)=n:=by
 have a:=Ji (B:=10) Y n;have k:=JY (B:=10) Y n;have q:=Jj (B:=10) Y n;have m:Jb 10 n≠[]:=by rw[Ne,Jw Y];exact j
 have f:=Nt a;have b:=Nu a;have e:J8 n=Dk (Jb 10 n):=Hf j;rw[q]at b;obtain⟨ds,d,p⟩:∃ds d,Jb 10 n=ds++[d]:=⟨_,_,(List.dropLast_concat_getLast m).symm⟩;rw[p]at f b e k a;rw[Nl]at f b e;have r:d≠0:=by
  intro o;subst o;have g:(Jq (ds++[0])).length<=ds.length:=by rw[Yd];exact YV ds
  rw[k]at g;simp at g;omega
 have l:d<10:=a d B5;have i:=Xa l;refine⟨D7 d,Dk ds,e,?_,?_,f,b⟩
 . intro h;rw[h]at i;grind
 . intro h;rw[h]at i;grind
theorem Nv(h:(Yn z).length<=2000):good (Yn z)=true/\YA (Yn z)=z:=by
 by_cases a:z.natAbs=0
 . have:z=0:=Y
   subst this;simp[Yn,J8,good,YA,JF,num,DR,val,DC]
 . obtain⟨c,t,e,d,b,f,g⟩:=X0 a;grind[Yn,good,JF,YA]
theorem Nw(a:10<=B):(Jb B n).length<=(Jb 10 n).length:=by
 refine JE Y ?_;have h:=JV (Ji (B:=10) Y n);grind[Jj,Ak,CL]
theorem Nx(h:good l=true)(a:10<=B):(Jb B (YA l).natAbs).length<=2000:=by
 grind[Ns,good,Nw,Jy,Hf,Kl,Yn]
def Yw(f:UInt8->Bool)(l:List UInt8)(i:Nat):Nat:=i+((l.drop i).takeWhile f).length
def C7(l:List UInt8)(i:Nat):Nat:=Yw (·==32) l i
def DX(l:List UInt8)(i:Nat):Nat:=Yw DC l i
theorem Ny(d:n<=l.length)(a:∀k (h:k<n),f l[k]=true)(e:∀h:n<l.length,f l[n]=false):(l.takeWhile f).length=n:=by
 induction l generalizing n with
 |nil=>simp at d ⊢;omega
 |cons c t g=>
  cases n with
  |zero=>
   grind[Cs]
  |succ n=>
   have:=a 0 Y;simp at this;rw[List.takeWhile_cons_of_pos this,Ag,g (n:=n) (by simpa using d) (λk b=>a (k+1) Y) λb=>e (by simpa using b)]
theorem GN(d:i<=j)(e:j<=l.length)(b:∀k (h:k<l.length),i<=k->k<j->f l[k]=true)(c:∀h:j<l.length,f l[j]=false):Yw f l i=j:=by
 unfold Yw;rw[Ny (n:=j-i) DJ]
 . omega
 . intro k a;grind
 . intro a;grind
theorem Xx(f:UInt8->Bool)(l:List UInt8):(l.takeWhile f).length<=l.length/\(∀k (h:k<l.length),k<(l.takeWhile f).length->f l[k]=true)/\∀h:(l.takeWhile f).length<l.length,f (l[(l.takeWhile f).length]'h)=false:=by
 induction l with
 |nil=>simp
 |cons c t b=>
  by_cases a:f c=true
  . grind[List.takeWhile_cons_of_pos]
  grind[Cs]
def Hi(f:UInt8->Bool)(l:List UInt8)(i:Nat):i<=Yw f l i:=Nat.le_add_right _ _
theorem Hj(a:i<=l.length):Yw f l i<=l.length:=by
 grind[Xx,Yw]
theorem Nz(b:i<=k)(a:k<Yw f l i)(h:k<l.length):f l[k]=true:=by
 have:=(Xx f (l.drop i)).2.1 (k-i) DJ (by unfold Yw at a;omega);grind
theorem Hk(h:Yw f l i<l.length):f (l[Yw f l i]'h)=false:=by
 grind[Yw,Xx]
def N0(f:UInt8->Bool)(l:List UInt8)(i:Nat):Yw f l (Yw f l i)=Yw f l i:=by
 rcases AH (Yw f l i) l.length with h|h
 . exact GN (Aa _) Y (λk _ b c=>by omega) λa=>Hk a
 . unfold Yw;rw[show i+((l.drop i).takeWhile f).length=Yw f l i from J,AA h];rfl
def JP(l:List UInt8)(j:Nat)(c:UInt8):Bool:=l[j]?==some c
abbrev Rd(α:Type):=EStateM.Result Nat Nat α
def JI(l:List UInt8)(i:Nat):Rd (List UInt8 × Nat):=
 if DX l (C7 l i)=C7 l i then .error 2 (C7 l i)
 else if 12<DX l (C7 l i)-C7 l i then .error 3 (C7 l i)
 else .ok (((l.drop (C7 l i)).take (DX l (C7 l i)-C7 l i)),C7 l i) (DX l (C7 l i))
def JW(l:List UInt8)(i:Nat):Rd Rat:=
 match JI l i with
 |.error e p=>.error e p
 |.ok (ds,_) k=>
  if JP l (C7 l k) 47 then
   match JI l (C7 l k+1)with
   |.error e p=>.error e p
   |.ok (a,p) m=>if num a=0 then .error 4 p else .ok (Rat.divInt (num ds) (num a)) m
  else .ok ((num ds:Int):Rat) (C7 l k)
def Xs(l:List UInt8)(i:Nat):Rd Nat:=
 if JP l (C7 l i) 94 then
  match JI l (C7 l i+1)with
  |.error e p=>.error e p
  |.ok (ds,p) k=>if 8<num ds then .error 3 p else .ok (num ds) k
 else .ok 1 (C7 l i)
def D0(l:List UInt8)(j:Nat):Bool:=(l[j]?.map DC).getD false
def JR(l:List UInt8)(i:Nat):Rd (Rat × Nat):=
 if D0 l (C7 l i)then
  match JW l (C7 l i)with
  |.error e p=>.error e p
  |.ok c k=>
   if JP l (C7 l k) 120 then
    match Xs l (C7 l k+1)with
    |.error e p=>.error e p
    |.ok n m=>.ok (c,n) m
   else .ok (c,0) (C7 l k)
 else if JP l (C7 l i) 120 then
  match Xs l (C7 l i+1)with
  |.error e p=>.error e p
  |.ok n m=>.ok (1,n) m
 else .error 2 (C7 l i)
def XX(l:List UInt8):Nat->Bool->Nat->Z->Rd Z
 |0,_,i,_=>.error 0 i
 |f+1,b,i,s=>
  match JR l i with
  |.error e p=>.error e p
  |.ok (c,n) k=>
   let a:=s.set n (if b then cf s n-c else cf s n+c)
   if JP l (C7 l k) 43 then XX l f false (C7 l k+1) a
   else if JP l (C7 l k) 45 then XX l f true (C7 l k+1) a
   else if C7 l k=l.length then .ok a (C7 l k)
   else .error 2 (C7 l k)
def Jp(l:List UInt8):Z × Nat × Nat:=
 if 300<l.length then([],1,0)
 else
  match (if JP l (C7 l 0) 45 then XX l (l.length+1) true (C7 l 0+1) (List.replicate 9 0)else XX l (l.length+1) false (C7 l 0) (List.replicate 9 0))with
  |.error e p=>([],e,p)
  |.ok s _=>(Jv s,0,0)
def Eu{ds:List UInt8}(e:i<=l.length)(h:JI l i=.ok (ds,p) k):p=C7 l i/\k=DX l p/\i<=p/\p<k/\k<=l.length/\k-p<=12/\ds=(l.drop p).take (k-p)/\ds.length=k-p/\ds.all DC=true:=by
 unfold JI at h;split at h
 . cases h
 . split at h
   . cases h
   . rename_i j m;simp only[EStateM.Result.ok.injEq,Prod.mk.injEq]at h;obtain⟨⟨rfl,rfl⟩,rfl⟩:=h;have hs:C7 l i<=l.length:=Hj e;have o:C7 l i<=DX l (C7 l i):=Hi _ _ _;have b:DX l (C7 l i)<=l.length:=Hj hs;have a:((l.drop (C7 l i)).take (DX l (C7 l i)-C7 l i)).length=DX l (C7 l i)-C7 l i:=by rw[Ae,AX];omega
     refine⟨J,J,Hi _ _ _,Y,b,Y,J,a,?_⟩;rw[Am];intro c d;obtain⟨n,g,rfl⟩:=List.mem_iff_getElem.1 d;rw[a]at g;rw[List.getElem_take,List.getElem_drop];exact Nz (f:=DC) (i:=C7 l i) Y (by show _<DX l (C7 l i);omega) Y
def Hl{ds:List UInt8}(a:i<=l.length)(h:JI l i=.ok (ds,p) k):i<k/\k<=l.length:=by
 have:=Eu a h;omega
theorem JU(h:JP l j c=true):j<l.length:=by
 grind[JP]
theorem J9(a:i<=l.length):C7 l i<=l.length:=Hj a
def Ef(l:List UInt8)(i:Nat):i<=C7 l i:=Hi _ _ _
theorem Km{c:Rat}(f:i<=l.length)(h:JW l i=.ok c k):i<k/\k<=l.length:=by
 unfold JW at h;split at h
 . cases h
 . rename_i ds p g b;have d:=Hl f b;have n:=Ef l g;have o:=J9 d.2;split at h
   . rename_i a;have a:=JU a;split at h
     . cases h
     . rename_i j r m e;have q:=Hl Y e;grind
   . cases h;omega
theorem Kn(c:i<=l.length)(h:Xs l i=.ok n k):i<=k/\k<=l.length/\n<=8:=by
 unfold Xs at h;have e:=Ef l i;have f:=J9 c;split at h
 . rename_i a;have a:=JU a;split at h
   . cases h
   . rename_i d j m b;have g:=Hl Y b;grind
 . cases h;omega
def X1{c:Rat}(j:i<=l.length)(h:JR l i=.ok (c,n) k):i<k/\k<=l.length/\n<=8:=by
 unfold JR at h;have q:=Ef l i;have f:=J9 j;split at h
 . split at h
   . cases h
   . rename_i c' o d;have e:=Km f d;have r:=Ef l o;have s:=J9 e.2;split at h
     . rename_i a;have a:=JU a;split at h
       . cases h
       . rename_i p m b;have g:=Kn Y b;cases h;omega
     . cases h;omega
 . split at h
   . rename_i a;have a:=JU a;split at h
     . cases h
     . rename_i p m b;have g:=Kn Y b;cases h;omega
   . cases h
def Fm(u u1 d1 d0 q r:Nat):Prop:=
 q*d1+r=u/\(u*4294967296+u1)/(d1*4294967296+d0)<=q/\q<=4294967297/\r<4294967296
theorem Ko(b:2147483648<=d1)(c:d1<4294967296)(a:d0<4294967296)(i:u1<4294967296)(g:u<d1*4294967296+d0):
 Fm u u1 d1 d0 (u/d1) (u%d1):=by
 have e:=AO u d1;have f:u%d1<d1:=AJ _ Y;have d:d1*(u/d1)=u/d1*d1:=AC _ _;refine⟨Y,?_,?_,Y⟩
 . apply Ct;rw[Ap Y];grind
 . apply Ct;rw[Ap Y];omega
theorem Kp(h:Fm u u1 d1 d0 q r)(d:0<d1)(c:q*d0<=4294967296*r+u1):q=(u*4294967296+u1)/(d1*4294967296+d0):=by
 obtain⟨a,b,_,_⟩:=h;grind[Nat.le_antisymm,CG]
theorem Kq(h:Fm u u1 d1 d0 q r)(j:2147483648<=d1)(l:u1<4294967296)(k:u<d1*4294967296+d0)(a:4294967296<=q\/4294967296*r+u1<q*d0):
 1<=q/\(q-1)*d1+(r+d1)=u/\(u*4294967296+u1)/(d1*4294967296+d0)<=q-1/\q-1<=4294967296:=by
 obtain⟨c,d,f,g⟩:=h;have b:1<=q:=by
  rcases a with a|a
  . omega
  . grind
 have e:(q-1)*d1+d1=q*d1:=by
  conv=>rhs;rw[show q=q-1+1 from by omega,Cm,C2]
 refine⟨b,Y,?_,Y⟩;apply Ct;rw[Nat.succ_eq_add_one,Nat.sub_add_cancel b,Ap Y];rcases a with a|a
 . have i:4294967296*(d1*4294967296+d0)<=q*(d1*4294967296+d0):=Af _ a;omega
 grind
def XK(d:q*d1+r=u)(a:(u*4294967296+u1)/(d1*4294967296+d0)<=q)(b:q<=4294967296)(c:d0<4294967296)(f:0<d1)(g:4294967296<=r):q=(u*4294967296+u1)/(d1*4294967296+d0):=by
 apply Nat.le_antisymm _ a;rw[CG Y,CN,<-Ce];have e:q*d0<=4294967296*d0:=Af _ b;omega
def Kr{t un0:Nat}(a:0<d):t/d*k+(t%d*k+un0)/d=(t*k+un0)/d/\(t%d*k+un0)%d=(t*k+un0)%d:=by
 have b:=AO t d;have e:t*k+un0=d*(t/d*k)+(t%d*k+un0):=by
  conv=>lhs;rw[<-b,Cm,Ce]
  omega
 rw[e,Nat.mul_add_div a,Nat.mul_add_mod];exact⟨J,J⟩
def N1{a s:Nat}:(a*2^s)/(y*2^s)=a/y/\(a*2^s)%(y*2^s)=a%y*2^s:=
 ⟨Nat.mul_div_mul_right _ _ (AR s),Nat.mul_mod_mul_right _ _ _⟩
def GO(B u u1 d1 d0 q r:Nat):Prop:=
 q*d1+r=u/\(u*B+u1)/(d1*B+d0)<=q/\q<B/\r<B
theorem N2(a:0<d1)(f:d1<B)(j:u1<B)(c:u<d1*B):GO B u u1 d1 d0 (u/d1) (u%d1):=by
 have g:=AO u d1;have i:u%d1<d1:=AJ _ a;have e:d1*(u/d1)=u/d1*d1:=AC _ _;have hp:0<d1*B:=B3 a Y;refine⟨Y,?_,?_,Y⟩
 . apply Ct;rw[Ap Y,Nat.succ_eq_add_one];have b:(u/d1+1)*(d1*B+d0)=(u/d1*d1+d1)*B+(u/d1+1)*d0:=DJ
   rw[b];have d:(u+1)*B<=(u/d1*d1+d1)*B:=Af _ Y;grind
 . rw[Ap a,AC];exact c
def Hm(a:q*d1+r=u)(b:(u*B+u1)/(d1*B+d0)<=q)(d:0<d1*B)(c:q*d0<=r*B+u1):q=(u*B+u1)/(d1*B+d0):=by
 apply Nat.le_antisymm _ b;rw[CG Y,CN,<-Ce,<-a,Cm];omega
def N3(h:GO B u u1 d1 d0 q r)(j:0<d1*B)(d:r*B+u1<q*d0):
 1<=q/\(q-1)*d1+(r+d1)=u/\(u*B+u1)/(d1*B+d0)<=q-1/\q-1<B:=by
 obtain⟨c,f,g,i⟩:=h;have b:1<=q:=by
  rcases AE q with a|a
  . rw[a]at d;omega
  . exact a
 have e:(q-1)*d1+d1=q*d1:=by
  rw[<-Nat.succ_mul];congr 1;omega
 refine⟨b,Y,?_,Y⟩;apply Ct;rw[Nat.succ_eq_add_one,Nat.sub_add_cancel b,Ap Y,CN,<-Ce,<-c,Cm];omega
def N4(a:q*d1+r=u)(b:(u*B+u1)/(d1*B+d0)<=q)(f:q<B)(e:d0<B)(c:0<d1*B)(d:B<=r):q=(u*B+u1)/(d1*B+d0):=by
 apply Hm a b c;have g:q*d0<=B*d0:=Af _ Y;have i:B*d0<=B*B:=Aq _ Y;have j:B*B<=r*B:=Af _ d;omega
def EG(R V g:Nat):Prop:=R<(g+1)*V/\g*V<=R+V
theorem N5{T:Nat}(l:R=T*E+lo)(a:V=o*E+lo2)(j:lo<E)(k:lo2<E)(p:T/o<=o)(d:0<o):EG R V (T/o):=by
 have m:=AO T o;have n:=AJ T d;generalize T/o=g at *;generalize T%o=t at *;have b:(T+1)*E<=(o*g+o)*E:=Af _ Y;have e:(g+1)*V=(o*g+o)*E+(g+1)*lo2:=by rw[a];grind
 have f:g*lo2<=g*E:=Aq _ Y;have c:(o*g+g)*E<=(T+o)*E:=Af _ Y;have i:g*V=o*g*E+g*lo2:=by rw[a];grind
 rw[Cm]at b c;refine⟨?_,?_⟩
 . omega
 grind
theorem N6(a:R=d1*(B*E)+lo)(b:V=d1*E+lo2)(f:lo2<E)(j:B<=2*d1)(i:R<V*B)(g:2<=B):EG R V (B-1):=by
 refine⟨DJ,?_⟩;obtain⟨c,rfl⟩:∃c,B=c+2:=⟨B-2,Y⟩;rw[show c+2-1=c+1 from by omega,Cm,C2];apply Nat.add_le_add_right;rw[a,b,CN];have d:c*lo2<=c*E:=Aq _ Y;have e:c*E<=2*d1*E:=Af _ Y;grind
theorem N7(h:EG R V g)(b:q+V*g=R):g=R/V/\q=R%V:=by
 have hg:g*V=V*g:=AC _ _;have a:=h.1;rw[Cm,C2]at a;have c:q<V:=Y
 grind[Cy,AY,Cj,Ca]
theorem N8{P q2 c2:Nat}(h:EG R V g)(c:q+V*g=R+P)(m:q<P)(k:q2+P*c2=q+V)(l:q2<P)(i:c2<=1):1<=g/\g-1=R/V/\q2=R%V:=by
 have d:=h.2;have hg:g*V=V*g:=AC _ _;have j:1<=g:=by
  rcases AE g with a|a
  . rw[a]at c;omega
  . exact a
 have e:V*(g-1)+V=V*g:=by rw[<-Nat.mul_succ];congr 1;omega
 have b:c2=1:=by
  rcases(by omega:c2=0\/c2=1)with a|a
  . subst a;omega
  . exact a
 subst b;have f:q2+V*(g-1)=R:=Y
 have n:q2<V:=Y
 grind[Cy,AY,Cj,Ca]
def Y7(x y:Nat):Nat:=(x-y)+(y-x)
def D3(d e:Nat)(s:Int)(h l c nb b a:Nat):Prop:=
 (s=1\/s=-1)/\d=nb*l+a*h/\e=c*l+b*h/\(c:Int)*a-nb*b=s/\b<=a/\c+b<=nb+a/\1<=a/\l<=h
def D3.start(h:v<=o):D3 o v 1 o v 1 0 0 1:=
 ⟨Ao J,Y,Y,Y,Y,Y,Y,h⟩
theorem D3.step{l nb:Nat}(hs:D3 o v s h l w nb C F)(hl:1<=l):
 D3 o v (-s) l (h%l) C F (w+h/l*C) (nb+h/l*F):=by
 obtain⟨n,c,d,p,a,t,u,x⟩:=hs;have e:=AO h l;have b:1<=h/l:=(CG Y).2 Y;have y:h%l<l:=AJ _ Y;generalize h/l=q at *;generalize h%l=r at *;subst e;have g:q*C<=q*F:=Aq q a;have i:C<=q*C:=Cb C b;have j:F<=q*F:=Cb F b;have k:(q-1)*C<=(q-1)*F:=Aq _ a;have m:(q-1)*C+C=q*C:=by
  rw[<-Nat.succ_mul];congr 1;omega
 have f:(q-1)*F+F=q*F:=by
  rw[<-Nat.succ_mul];congr 1;omega
 refine⟨Y,by rw[c];grind,by rw[d];grind,?_,Y,Y,Y,Y⟩;grind
def D3.small{l nb:Nat}(hs:D3 o v s h l w nb C F)(hl:1<=l):nb+F<=o/\w+C<=v:=by
 obtain⟨e,f,g,i,j,k,m,n⟩:=hs;have a:nb<=nb*l:=Cg nb hl;have b:F<=F*h:=Cg F Y;have c:w<=w*l:=Cg w hl;have d:C<=C*h:=Cg C Y;omega
def EO(A B b c a nb:Nat):Prop:=
 A=c*Y7 (a*A) (nb*B)+nb*Y7 (b*A) (c*B)/\B=b*Y7 (a*A) (nb*B)+a*Y7 (b*A) (c*B)/\
 Y7 (a*A) (nb*B)<Y7 (b*A) (c*B)/\1<=nb
def Ks{x:Nat}(a:0<=z)(h:z=(x:Int)-y\/z=(y:Int)-x):(Y7 x y:Int)=z:=by
 unfold Y7;omega
theorem D3.out{S al be l nb:Nat}(hs:D3 o v s h l w nb C F)(G:A=o*S+al)(H:B=v*S+be)(n:al<S)(p:be<S)
(hl:F<=l)(I:nb+F<=h-l):EO A B w nb C F:=by
 obtain⟨m,x,y,c,z,D,E,L⟩:=hs;have j:(o:Int)=nb*l+F*h:=by rw[x];push_cast;rfl
 have k:(v:Int)=w*l+C*h:=by rw[y];push_cast;rfl
 have g:(A:Int)=o*S+al:=by rw[G];push_cast;rfl
 have i:(B:Int)=v*S+be:=by rw[H];push_cast;rfl
 have b:s*s=1:=DJ
 obtain⟨X,d⟩:∃X:Int,X=s*(w*A-nb*B):=⟨_,J⟩;obtain⟨a,e⟩:∃a:Int,a=-s*(C*A-F*B):=⟨_,J⟩;have x1:X=(h:Int)*S+s*(w*al-nb*be):=by
  have:X=(s*(w*F-nb*C))*h*S+s*(w*al-nb*be):=by rw[d,g,i,j,k];grind
  rw[this,c,b];grind
 have q:a=(l:Int)*S-s*(C*al-F*be):=by
  have:a=(s*(w*F-nb*C))*l*S-s*(C*al-F*be):=by rw[e,g,i,j,k];grind
  rw[this,c,b];grind
 have c1:(C:Int)*al<=F*al:=by exact_mod_cast Af al z
 have c2:(F:Int)*al<F*S:=by exact_mod_cast CF n Y
 have c3:(F:Int)*be<F*S:=by exact_mod_cast CF p Y
 have c4:(F:Int)*S<=l*S:=by exact_mod_cast Af S hl
 have d1:((w+C:Nat):Int)*al<=(nb+F:Nat)*al:=by exact_mod_cast Af al D
 have r:((nb+F:Nat):Int)*al<(nb+F:Nat)*S:=by exact_mod_cast CF n Y
 have t:((nb+F:Nat):Int)*be<(nb+F:Nat)*S:=by exact_mod_cast CF p Y
 have f:((nb+F:Nat):Int)*S<=(h-l:Nat)*S:=by exact_mod_cast Af S I
 have u:((h-l:Nat):Int)=h-l:=Y
 rw[u]at f;simp only[Int.natCast_add,Int.add_mul,Int.sub_mul]at d1 r t f;have p1:(0:Int)<=F*be:=by exact_mod_cast AL _
 have P:(0:Int)<=C*al:=by exact_mod_cast AL _
 have Q:(0:Int)<=w*al:=by exact_mod_cast AL _
 have R:(0:Int)<=nb*be:=by exact_mod_cast AL _
 have N:0<a:=by
  rw[q];rcases m with rfl|rfl<;>omega
 have M:a<X:=by
  rw[x1,q];rcases m with rfl|rfl<;>omega
 have ex:(Y7 (w*A) (nb*B):Int)=X:=Ks Y DJ;have K:(Y7 (C*A) (F*B):Int)=a:=Ks Y DJ;refine⟨?_,?_,Y,E⟩
 . have:(A:Int)=nb*a+F*X:=by
    have:(nb:Int)*a+F*X=(s*(w*F-nb*C))*A:=by rw[d,e];grind
    rw[this,c,b];omega
   grind
 . have:(B:Int)=w*a+C*X:=by
    have:(w:Int)*a+C*X=(s*(w*F-nb*C))*B:=by rw[d,e];grind
    rw[this,c,b];omega
   grind
theorem EO.gcd{A B b c a nb:Nat}(h:EO A B b c a nb):Nat.gcd (Y7 (b*A) (c*B)) (Y7 (a*A) (nb*B))=Nat.gcd A B:=by
 obtain⟨d,e,_,_⟩:=h;apply Nat.dvd_antisymm
 . grind[Nat.gcd_dvd_left,Nat.gcd_dvd_right,Nat.dvd_gcd,Nat.dvd_add]
 grind[Nat.gcd_dvd_left,Nat.gcd_dvd_right,Y7,Nat.dvd_add,Nat.dvd_sub,Nat.dvd_gcd]
def EO.less{nb:Nat}(h:EO A B o v w nb)(hp:v≠0)(g:0<B):Y7 (o*A) (v*B)+Y7 (w*A) (nb*B)<A+B:=by
 obtain⟨c,d,e,f⟩:=h;have a:Y7 (w*A) (nb*B)<=v*Y7 (w*A) (nb*B):=Cb _ Y;have b:Y7 (o*A) (v*B)<=nb*Y7 (o*A) (v*B):=Cb _ Y;omega
