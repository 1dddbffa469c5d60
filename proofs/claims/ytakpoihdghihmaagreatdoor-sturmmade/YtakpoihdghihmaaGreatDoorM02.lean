import Init
import Derived.Test.YtakpoihdghihmaaGreatDoorM01
set_option maxRecDepth 100000
set_option maxHeartbeats 16000000
namespace Go.Proofs.YtakpoihdghihmaaGreatDoor
theorem DA:type_of% @Nat.mul_pos:=@Nat.mul_pos
theorem Bs:type_of% @UInt8.toNat_inj:=@UInt8.toNat_inj
theorem Bo:type_of% @decide_eq_false_iff_not:=@decide_eq_false_iff_not
theorem Bj:type_of% @decide_eq_true_eq:=@decide_eq_true_eq
def val(B:Nat):List Nat->Nat
 |[]=>0
 |d::ds=>d+B*val B ds
def DE(B:Nat)(ds:List Nat):Prop:=∀d∈ds,d<B
def FK(B:Nat):Nat->Nat->List Nat
 |0,_=>[]
 |k+1,n=>if n=0\/B<2 then []else n%B::FK B k (n/B)
def Ji(B n:Nat):List Nat:=FK B n n
theorem Ni(B:Nat):∀(k n m:Nat),n<=k->n<=m->FK B k n=FK B m n
 |0,n,m,h,_=>by
  have:n=0:=Y
  subst this;cases m with
  |zero=>rfl
  |succ m=>rw[FK,FK,BE (Or.inl rfl)]
 |k+1,n,0,_,h=>by
  have:n=0:=Y
  subst this;rw[FK,FK,BE (Or.inl rfl)]
 |k+1,n,m+1,a,b=>by
  rw[FK,FK];by_cases h:n=0\/B<2
  . rw[BE h,BE h]
  . have c:n/B<n:=Nat.div_lt_self Y Y;rw[BC h,BC h,Ni B k (n/B) m Y Y]
def J0:List Nat->List Nat
 |[]=>[]
 |d::ds=>match J0 ds with
  |[]=>if d=0 then []else [d]
  |e::es=>d::e::es
variable{s:Int}{a b ds:List Nat}{l:List UInt8}{A B E H L R V d d0 d1 g h i j k lo lo2 m n nb o p q r u u1 v w y:Nat}{c:UInt8}{f:UInt8->Bool}
theorem DE.nil(B:Nat):DE B []:=λ_ h=>by cases h
theorem DE.cons(h:d<B)(k:DE B ds):DE B (d::ds):=λx a=>by
 rcases List.mem_cons.1 a with rfl|a
 . exact h
 . exact k x a
theorem DE.head(h:DE B (d::ds)):d<B:=h d (Cw ..)
theorem DE.tail(h:DE B (d::ds)):DE B ds:=λx a=>h x (List.mem_cons_of_mem _ a)
theorem DE.append(h:DE B a)(k:DE B b):DE B (a++b):=λx c=>by
 rcases Cy.1 c with c|c
 . exact h x c
 . exact k x c
theorem Lb(B:Nat):val B []=0:=rfl
theorem J8(B d:Nat)(ds:List Nat):val B (d::ds)=d+B*val B ds:=rfl
theorem val_append(B:Nat):∀(a b:List Nat),val B (a++b)=val B a+B^a.length*val B b
 |[],b=>by simp[val]
 |d::a,b=>by
  simp only[AC,J8,val_append B a b,Ah,AZ];rw[AJ,At (B^a.length) B,AE,Fi]
theorem YG{B:Nat}:∀ {ds:List Nat},DE B ds->val B ds<B^ds.length
 |[],_=>by simp[val]
 |d::ds,h=>by
  have b:=h.head;have a:=YG h.tail;simp only[J8,Ah,AZ];have c:B*val B ds+B<=B*B^ds.length:=by
   rw[<-Nat.mul_succ];exact As _ a
  rw[At (B^ds.length) B];omega
theorem JI(B:Nat):Ji B 0=[]:=rfl
theorem XN(b:2<=B)(c:n≠0):Ji B n=n%B::Ji B (n/B):=by
 unfold Ji;obtain⟨m,rfl⟩:∃m,n=m+1:=⟨n-1,Y⟩;have a:(m+1)/B<m+1:=Nat.div_lt_self Y Y;rw[FK,BC Y,Ni B m _ _ Y (Aa _)]
theorem Ju(b:2<=B)(n:Nat):val B (Ji B n)=n:=by
 induction n using Nat.strongRecOn with
 |ind n c=>
  by_cases a:n=0
  . subst a;rw[JI];rfl
  . rw[XN b a,J8,c _ (Nat.div_lt_self Y Y)];exact Nat.mod_add_div n B
theorem Jy(b:2<=B)(n:Nat):DE B (Ji B n):=by
 induction n using Nat.strongRecOn with
 |ind n c=>
  by_cases a:n=0
  . subst a;rw[JI];exact DE.nil B
  . rw[XN b a];exact DE.cons (Ce _ Y) (c _ (Nat.div_lt_self Y Y))
theorem Yf(a:2<=B):Ji B n=[]↔n=0:=by
 constructor
 . intro h;have:=Ju a n;rw[h]at this;exact this.symm
 . intro h;rw[h,JI]
theorem YP(h:J0 ds=[]):J0 (d::ds)=if d=0 then []else [d]:=by
 simp only[J0,h]
theorem Xc(h:J0 ds≠[]):J0 (d::ds)=d::J0 ds:=by
 simp only[J0];cases a:J0 ds with
 |nil=>exact absurd a h
 |cons e b=>rfl
theorem Lc(B:Nat):∀(ds:List Nat),val B (J0 ds)=val B ds
 |[]=>rfl
 |d::ds=>by
  by_cases h:J0 ds=[]
  . have:=Lc B ds;rw[h]at this;rw[YP h,J8,<-this];by_cases a:d=0
    . simp[a,val]
    . simp[a,val]
  . rw[Xc h,J8,J8,Lc B ds]
theorem Yr{B:Nat}(j:2<=B):∀ {ds:List Nat},DE B ds->Ji B (val B ds)=J0 ds
 |[],_=>by rw[Lb,JI];rfl
 |d::ds,h=>by
  have i:=h.head;have g:=Yr j h.tail;rw[J8];by_cases f:d+B*val B ds=0
  . have c:d=0:=Y
    have e:val B ds=0:=by
     rcases A9 (val B ds)with b|b
     . exact b
     . have:0<B*val B ds:=DA Y b
       omega
    rw[e,JI]at g;rw[f,JI,YP g.symm,BE c]
  . rw[XN j f];have k:(d+B*val B ds)%B=d:=by rw[CH];exact Cn i
    have l:(d+B*val B ds)/B=val B ds:=by
     rw[CX _ _ Y,Cg i,AW]
    rw[k,l,g];by_cases a:J0 ds=[]
    . rw[YP a,a];have e:val B ds=0:=by rw[<-Lc B ds,a];rfl
      rw[BC];intro c;apply f;rw[c,e];simp
    . rw[Xc a]
def Gg(ds:List Nat):Prop:=J0 ds=ds
theorem Hn(a:2<=B)(n:Nat):Gg (Ji B n):=by
 have h:=Yr a (Jy a n);rw[Ju a]at h;exact h.symm
theorem Ld(a:2<=B)(h:DE B ds)(b:Gg ds):Ji B (val B ds)=ds:=(Yr a h).trans b
theorem Le:∀(ds:List Nat) {d:Nat},d≠0->J0 (ds++[d])=ds++[d]
 |[],d,h=>by simp[J0,h]
 |e::ds,d,h=>by
  have a:=Le ds h;rw[AC,Xc (by rw[a];simp),a]
theorem Nj:∀(ds:List Nat),J0 (ds++[0])=J0 ds
 |[]=>by simp[J0]
 |e::ds=>by
  have a:=Nj ds;by_cases h:J0 ds=[]
  . rw[AC,YP (by rw[a];exact h),YP h]
  . rw[AC,Xc (by rw[a];exact h),Xc h,a]
theorem Nk(ds:List Nat)(k:Nat)(n:k<=ds.length)(a:∀j,k<=j->j<ds.length->ds[j]?=some 0):J0 (ds.take k)=J0 ds:=by
 obtain⟨m,f⟩:∃m,ds.length=k+m:=⟨ds.length-k,Y⟩;induction m generalizing ds with
 |zero=>rw[Ac Y]
 |succ m g=>
  have hl:ds=ds.take (k+m)++[0]:=by
   apply List.ext_getElem?;intro i;by_cases d:i<k+m
   . rw[AD (by rw[Am];omega),AV d]
   . by_cases e:i=k+m
     . subst e;rw[Ay (by rw[Am];omega),a _ Y Y];simp[List.length_take,f]
     . rw[AF Y,AF];simp[List.length_take];omega
  have b:(ds.take (k+m)).length=k+m:=by rw[Am];omega
  have:=g (ds.take (k+m)) Y (by
   intro j c l;rw[AV Y];exact a j c Y) b
  rw[List.take_take,CE Y]at this;rw[this];conv=>rhs;rw[hl]
  rw[Nj]
theorem Rb(ds:List Nat)(k:Nat)(a:k<ds.length)(d:ds[k]?≠some 0)(b:∀j,k<j->j<ds.length->ds[j]?=some 0):J0 ds=ds.take (k+1):=by
 rw[<-Nk ds (k+1) Y λj f c=>b j Y c];rw[Cq a];refine Le _ ?_;intro e;apply d;rw[Al a,e]
theorem Rc(ds:List Nat)(a:∀j,j<ds.length->ds[j]?=some 0):J0 ds=[]:=by
 have:=Nk ds 0 Y λj _ h=>a j h;rw[<-this];simp[J0]
theorem YQ(b:2<=B)(h:n<B^k):(Ji B n).length<=k:=by
 induction k generalizing n with
 |zero=>
  have:n=0:=by simp at h;exact h
  rw[this,JI];simp
 |succ k c=>
  by_cases a:n=0
  . rw[a,JI];simp
  . rw[XN b a,Ah]
    have:n/B<B^k:=by
     apply Nat.div_lt_of_lt_mul;rw[At,<-AZ];exact h
    have:=c this;omega
theorem Nl(b:2<=B)(h:(Ji B n).length=k+1):B^k<=n:=by
 rcases AX n (B^k)with a|a
 . have:=YQ b a;omega
 . exact a
theorem X5(a:2<=B)(h:(Ji B m).length<(Ji B n).length):m<n:=by
 have b:m<B^(Ji B m).length:=by
  have:=YG (Jy a m);rwa[Ju a]at this
 have c:B^((Ji B n).length-1)<=n:=Nl a Y;have d:B^(Ji B m).length<=B^((Ji B n).length-1):=AU Y Y;omega
def XC(m n:Nat):Int:=if m<n then -1 else if n<m then 1 else 0
theorem Nm(m:Nat):XC m m=0:=by simp[XC]
theorem Gh(h:m<n):XC m n=-1:=by simp[XC,h]
theorem Ib(h:n<m):XC m n=1:=by
 have:¬m<n:=Y
 simp[XC,h,this]
theorem Nn(ds:List Nat)(k:Nat)(a:k<ds.length):val B ds=val B (ds.take k)+B^k*(ds[k]?.getD 0+B*val B (ds.drop (k+1))):=by
 have b:ds=ds.take k++(ds[k]?.getD 0::ds.drop (k+1)):=by
  rw[Al a];conv=>lhs;rw[<-Ci k ds,Cb a]
  rfl
 have c:(ds.take k).length=k:=by rw[Am];omega
 conv=>lhs;rw[b]
 rw[val_append,J8,c]
theorem DE.take{B:Nat}{ds:List Nat}(h:DE B ds)(k:Nat):DE B (ds.take k):=λx a=>h x (Fy a)
theorem DE.drop{B:Nat}{ds:List Nat}(h:DE B ds)(k:Nat):DE B (ds.drop k):=λx a=>h x (List.mem_of_mem_drop a)
theorem DE.get(h:DE B ds)(a:k<ds.length):ds[k]?.getD 0<B:=by
 rw[Al a];exact h _ (Fm a)
theorem DE.getD{B:Nat}{ds:List Nat}(h:DE B ds)(b:0<B)(k:Nat):ds[k]?.getD 0<B:=by
 rcases AX k ds.length with a|a
 . exact h.get a
 . rw[AF a];exact b
theorem Np(e:DE B a)(hl:a.length=b.length)(k:Nat)(g:k<a.length)(f:a.drop (k+1)=b.drop (k+1))(h:a[k]?.getD 0<b[k]?.getD 0):val B a<val B b:=by
 rw[Nn a k g,Nn b k Y,<-f];have c:=YG (e.take k);have d:(a.take k).length=k:=by rw[Am];omega
 rw[d]at c;have i:B^k*(a[k]?.getD 0+B*val B (a.drop (k+1)))+B^k<=B^k*(b[k]?.getD 0+B*val B (a.drop (k+1))):=by
  rw[<-Nat.mul_succ];exact As _ Y
 omega
theorem Re(hl:a.length=b.length)(k:Nat)(c:k<a.length)(d:a.drop (k+1)=b.drop (k+1))(h:a[k]?.getD 0=b[k]?.getD 0):a.drop k=b.drop k:=by
 rw[Cb c,Cb (by omega:k<b.length),d];rw[Al c,Al (by omega:k<b.length)]at h;exact congrArg (·::_) h
theorem Y8(c:2<=B)(d:DE B a)(e:DE B b)(ta:Gg a)(tb:Gg b)(h:a.length<b.length):val B a<val B b:=by
 apply X5 c;rw[Ld c d ta,Ld c e tb];exact h
theorem Jq(B:Nat)(ds:List Nat)(k:Nat):val B (ds.take (k+1))=val B (ds.take k)+B^k*ds[k]?.getD 0:=by
 rcases AX k ds.length with h|h
 . rw[Cq h,val_append,Am,CE Y,Al h];simp[val]
 . rw[Ac Y,Ac h,AF h];simp
theorem XD(B:Nat)(ds:List Nat)(d:Nat):val B (ds++[d])=val B ds+B^ds.length*d:=by
 rw[val_append];simp[val]
theorem Lf(a:2<=B)(h:(Ji B n).length=k)(b:k≠0):B^(k-1)<=n:=Nl a Y
def KF(d:Nat):UInt8:=UInt8.ofNat (48+d)
def Ho(ds:List Nat):List UInt8:=(ds.map KF).reverse
def Gi(n:Nat):List UInt8:=if n=0 then [48]else Ho (Ji 10 n)
def Ic(z:Int):List UInt8:=if z<0 then 45::Gi z.natAbs else Gi z.natAbs
theorem Rf(ds:List Nat):(Ho ds).length=ds.length:=by simp[Ho]
theorem Nq(h:n≠0):Gi n=Ho (Ji 10 n):=by simp[Gi,h]
def DR(c:UInt8):Bool:=decide (48<=c.toNat)&&decide (c.toNat<=57)
def Dn(l:List UInt8):List Nat:=(l.map λc=>c.toNat-48).reverse
def num(l:List UInt8):Nat:=val 10 (Dn l)
def JW(l:List UInt8):List UInt8:=if l.head?=some 45 then l.tail else l
def good(l:List UInt8):Bool:=decide (l.length<=2000) && !(JW l).isEmpty&&(!decide ((JW l).head?=some 48) || decide (l=[48]))&&(JW l).all DR
def YW(l:List UInt8):Int:=if l.head?=some 45 then -(num (JW l):Int)else num (JW l)
theorem YN(h:DR c=true):48<=c.toNat/\c.toNat<=57:=by simpa[DR]using h
theorem Rg(h:d<10):(KF d).toNat=48+d:=by
 unfold KF;rw[UInt8.toNat_ofNat'];omega
theorem Rh(h:DR c=true):KF (c.toNat-48)=c:=by
 have a:=YN h;apply Bs.1;rw[Rg Y];omega
theorem Ri(l:List UInt8)(c:UInt8):Dn (l++[c])=(c.toNat-48)::Dn l:=by simp[Dn]
theorem Rj(l:List UInt8)(c:UInt8):num (l++[c])=(c.toNat-48)+10*num l:=by rw[num,Ri,J8];rfl
theorem Rk(a b:List UInt8):Dn (a++b)=Dn b++Dn a:=by simp[Dn]
theorem KH(l:List UInt8):(Dn l).length=l.length:=by simp[Dn]
theorem Lg(a b:List UInt8):num (a++b)=num b+10^b.length*num a:=by rw[num,Rk,val_append,KH];rfl
theorem Lh(h:l.all DR=true):DE 10 (Dn l):=by
 intro d a;simp only[Dn,List.mem_reverse,CS]at a;obtain⟨c,b,rfl⟩:=a;have:=YN (A4.1 h c b);omega
theorem Rl(h:l.all DR=true):Ho (Dn l)=l:=by
 simp only[Ho,Dn,List.map_reverse,List.reverse_reverse,List.map_map];conv=>rhs;rw[<-List.map_id l]
 apply List.map_congr_left;intro c a;exact Rh (A4.1 h c a)
theorem Rm(b:DR c=true)(a:c≠48):Gg (Dn (c::l)):=by
 have e:Dn (c::l)=Dn l++[c.toNat-48]:=by simp[Dn]
 rw[e];refine Le _ ?_;have:=YN b;intro h;apply a;apply Bs.1;show c.toNat=48;omega
theorem Rn(h:(c::l).all DR=true)(b:c≠48):Gi (num (c::l))=c::l/\num (c::l)≠0:=by
 have d:DR c=true:=A4.1 h c (Cw ..);have e:=Ld (B:=10) Y (Lh h) (Rm d b);have a:num (c::l)≠0:=by
  intro f;rw[show val 10 (Dn (c::l))=0 from f,JI]at e;have:=congrArg List.length e;rw[KH]at this;simp at this
 refine⟨?_,a⟩;rw[Nq a,num,e,Rl h]
theorem Ro(h:good l=true):Ic (YW l)=l:=by
 simp only[good,Cl,Bj,Fd,CI,Bo]at h;obtain⟨⟨⟨_,g⟩,i⟩,f⟩:=h;cases a:JW l with
 |nil=>rw[a]at g;simp at g
 |cons c t=>
  rw[a]at i f;by_cases d:c=48
  . have hl:l=[48]:=by
     rcases i with h|h
     . exact absurd (by rw[d];rfl) h
     . exact h
    subst hl;simp[YW,JW,Ic,Gi,num,Dn,val]
  . obtain⟨e,j⟩:=Rn f d;by_cases b:l.head?=some 45
    . have hl:l=45::c::t:=by
       cases l with
       |nil=>simp at b
       |cons x l'=>
        simp at b;subst b;simp[JW]at a;rw[a]
      rw[YW,BE b,a,Ic,BE Y,Int.natAbs_neg,Ch,e,hl]
    . have hl:l=c::t:=by rw[<-a,JW,BC b]
      rw[YW,BC b,a,Ic,BC Y,Ch,e,hl]
theorem Rp(a:10<=B):(Ji B n).length<=(Ji 10 n).length:=by
 refine YQ Y ?_;have h:=YG (Jy (B:=10) Y n);rw[Ju Y]at h;exact AM h (Fk a _)
theorem Rq(h:good l=true)(b:10<=B):(Ji B (YW l).natAbs).length<=2000:=by
 have e:=Ro h;have hl:l.length<=2000:=by
  simp only[good,Cl,Bj]at h;exact h.1.1.1
 rw[<-e]at hl;refine An (Rp b) ?_;by_cases a:(YW l).natAbs=0
 . rw[a,JI];simp
 . have c:(Gi (YW l).natAbs).length=(Ji 10 (YW l).natAbs).length:=by rw[Nq a,Rf]
   unfold Ic at hl;split at hl
   . simp at hl;omega
   . omega
def Id(u u1 d1 d0 q r:Nat):Prop:=
 q*d1+r=u/\(u*4294967296+u1)/(d1*4294967296+d0)<=q/\q<=4294967297/\r<4294967296
theorem Nr(c:2147483648<=d1)(d:d1<4294967296)(b:d0<4294967296)(j:u1<4294967296)(i:u<d1*4294967296+d0):
 Id u u1 d1 d0 (u/d1) (u%d1):=by
 have f:=Ca u d1;have g:u%d1<d1:=Ce _ Y;have e:d1*(u/d1)=u/d1*d1:=At _ _;refine⟨Y,?_,?_,Y⟩
 . apply Fv;rw[AY Y];have a:(u/d1+1)*(d1*4294967296+d0)=u/d1*d1*4294967296+d1*4294967296+(u/d1+1)*d0:=by
    rw[AJ,<-AE,AG (u/d1) 1 d1,Cu,AG (u/d1*d1) d1]
   rw[Nat.succ_eq_add_one,a];generalize u/d1*d1=p at *;generalize (u/d1+1)*d0=z;omega
 . apply Fv;rw[AY Y];omega
theorem Ns(h:Id u u1 d1 d0 q r)(d:0<d1)(c:q*d0<=4294967296*r+u1):q=(u*4294967296+u1)/(d1*4294967296+d0):=by
 obtain⟨b,a,_,_⟩:=h;apply Nat.le_antisymm _ a;rw[Fu Y,AJ,<-AE];generalize q*d1=p at *;generalize q*d0=z at *;omega
theorem Nt(h:Id u u1 d1 d0 q r)(j:2147483648<=d1)(l:u1<4294967296)(k:u<d1*4294967296+d0)(a:4294967296<=q\/4294967296*r+u1<q*d0):
 1<=q/\(q-1)*d1+(r+d1)=u/\(u*4294967296+u1)/(d1*4294967296+d0)<=q-1/\q-1<=4294967296:=by
 obtain⟨c,d,f,g⟩:=h;have hq:1<=q:=by
  rcases a with a|a
  . omega
  . rcases A9 q with b|b
    . rw[b]at a;omega
    . exact b
 have e:(q-1)*d1+d1=q*d1:=by
  conv=>rhs;rw[show q=q-1+1 from by omega,AG,Cu]
 refine⟨hq,Y,?_,Y⟩;apply Fv;rw[Nat.succ_eq_add_one,Nat.sub_add_cancel hq,AY Y];rcases a with a|a
 . have i:4294967296*(d1*4294967296+d0)<=q*(d1*4294967296+d0):=Aj _ a;omega
 . rw[AJ,<-AE];generalize q*d1=p at *;generalize q*d0=z at *;omega
theorem KI(d:q*d1+r=u)(a:(u*4294967296+u1)/(d1*4294967296+d0)<=q)(b:q<=4294967296)(c:d0<4294967296)(f:0<d1)(g:4294967296<=r):q=(u*4294967296+u1)/(d1*4294967296+d0):=by
 apply Nat.le_antisymm _ a;rw[Fu Y,AJ,<-AE];have e:q*d0<=4294967296*d0:=Aj _ b;generalize q*d1=p at *;generalize q*d0=z at *;omega
theorem Rr{t un0:Nat}(a:0<d):t/d*k+(t%d*k+un0)/d=(t*k+un0)/d/\(t%d*k+un0)%d=(t*k+un0)%d:=by
 have b:=Ca t d;have e:t*k+un0=d*(t/d*k)+(t%d*k+un0):=by
  conv=>lhs;rw[<-b,AG,AE]
  omega
 rw[e,Nat.mul_add_div a,Nat.mul_add_mod];exact⟨rfl,rfl⟩
theorem Rs{a s:Nat}:(a*2^s)/(y*2^s)=a/y/\(a*2^s)%(y*2^s)=a%y*2^s:=
 ⟨Nat.mul_div_mul_right _ _ (A5 s),Nat.mul_mod_mul_right _ _ _⟩
def KJ(B u u1 d1 d0 q r:Nat):Prop:=
 q*d1+r=u/\(u*B+u1)/(d1*B+d0)<=q/\q<B/\r<B
theorem Rt(a:0<d1)(f:d1<B)(j:u1<B)(d:u<d1*B):KJ B u u1 d1 d0 (u/d1) (u%d1):=by
 have g:=Ca u d1;have i:u%d1<d1:=Ce _ a;have e:d1*(u/d1)=u/d1*d1:=At _ _;have hp:0<d1*B:=DA a Y;refine⟨Y,?_,?_,Y⟩
 . apply Fv;rw[AY Y,Nat.succ_eq_add_one];have b:(u/d1+1)*(d1*B+d0)=(u/d1*d1+d1)*B+(u/d1+1)*d0:=by grind
   rw[b];have c:(u+1)*B<=(u/d1*d1+d1)*B:=Aj _ Y;rw[AG,Cu]at c;generalize (u/d1+1)*d0=z;omega
 . rw[AY a,At];exact d
theorem Li(a:q*d1+r=u)(b:(u*B+u1)/(d1*B+d0)<=q)(d:0<d1*B)(c:q*d0<=r*B+u1):q=(u*B+u1)/(d1*B+d0):=by
 apply Nat.le_antisymm _ b;rw[Fu Y,AJ,<-AE,<-a,AG];omega
theorem Ru(h:KJ B u u1 d1 d0 q r)(i:0<d1*B)(c:r*B+u1<q*d0):
 1<=q/\(q-1)*d1+(r+d1)=u/\(u*B+u1)/(d1*B+d0)<=q-1/\q-1<B:=by
 obtain⟨b,d,f,g⟩:=h;have hq:1<=q:=by
  rcases A9 q with a|a
  . rw[a]at c;omega
  . exact a
 have e:(q-1)*d1+d1=q*d1:=by
  rw[<-Nat.succ_mul];congr 1;omega
 refine⟨hq,Y,?_,Y⟩;apply Fv;rw[Nat.succ_eq_add_one,Nat.sub_add_cancel hq,AY Y,AJ,<-AE,<-b,AG];omega
theorem Rv(a:q*d1+r=u)(b:(u*B+u1)/(d1*B+d0)<=q)(f:q<B)(e:d0<B)(c:0<d1*B)(d:B<=r):q=(u*B+u1)/(d1*B+d0):=by
 apply Li a b c;have g:q*d0<=B*d0:=Aj _ Y;have i:B*d0<=B*B:=As _ Y;have j:B*B<=r*B:=Aj _ d;omega
def FW(R V g:Nat):Prop:=R<(g+1)*V/\g*V<=R+V
theorem Rw{T:Nat}(c:R=T*E+lo)(a:V=o*E+lo2)(k:lo<E)(l:lo2<E)(p:T/o<=o)(i:0<o):FW R V (T/o):=by
 have m:=Ca T o;have n:=Ce T i;generalize T/o=g at *;generalize T%o=t at *;have d:(T+1)*E<=(o*g+o)*E:=Aj _ Y;have e:(g+1)*V=(o*g+o)*E+(g+1)*lo2:=by rw[a];grind
 have j:g*lo2<=g*E:=As _ Y;have b:(o*g+g)*E<=(T+o)*E:=Aj _ Y;have f:g*V=o*g*E+g*lo2:=by rw[a];grind
 rw[AG]at d b;refine⟨?_,?_⟩
 . rw[e,c];generalize (g+1)*lo2=z;omega
 . rw[f,c,a];rw[AG]at b;omega
theorem Rx(a:R=d1*(B*E)+lo)(d:V=d1*E+lo2)(i:lo2<E)(k:B<=2*d1)(b:R<V*B)(j:2<=B):FW R V (B-1):=by
 refine⟨by rw[Nat.sub_add_cancel Y,At];exact b,?_⟩;obtain⟨c,rfl⟩:∃c,B=c+2:=⟨B-2,Y⟩;rw[show c+2-1=c+1 from by omega,AG,Cu];apply Nat.add_le_add_right;rw[a,d,AJ];have e:c*lo2<=c*E:=As _ Y;have f:c*E<=2*d1*E:=Aj _ Y;have g:d1*((c+2)*E)=c*(d1*E)+2*d1*E:=by grind
 omega
theorem Ry(h:FW R V g)(hq:q+V*g=R):g=R/V/\q=R%V:=by
 have c:g*V=V*g:=At _ _;have b:=h.1;rw[AG,Cu]at b;have a:q<V:=Y
 rw[<-hq];exact⟨by rw[CX _ _ Y,Cg a,AW],by rw[CH,Cn a]⟩
theorem Rz{P q2 c2:Nat}(h:FW R V g)(hq:q+V*g=R+P)(n:q<P)(l:q2+P*c2=q+V)(m:q2<P)(j:c2<=1):1<=g/\g-1=R/V/\q2=R%V:=by
 have i:=h.2;have k:g*V=V*g:=At _ _;have c:1<=g:=by
  rcases A9 g with a|a
  . rw[a]at hq;omega
  . exact a
 have e:V*(g-1)+V=V*g:=by rw[<-Nat.mul_succ];congr 1;omega
 have f:c2=1:=by
  rcases(by omega:c2=0\/c2=1)with a|a
  . subst a;omega
  . exact a
 subst f;have d:q2+V*(g-1)=R:=Y
 have b:q2<V:=Y
 rw[<-d];exact⟨c,by rw[CX _ _ Y,Cg b,AW],by rw[CH,Cn b]⟩
def YX(x y:Nat):Nat:=(x-y)+(y-x)
def E0(H L:Nat)(s:Int)(h l c nb b a:Nat):Prop:=
 (s=1\/s=-1)/\H=nb*l+a*h/\L=c*l+b*h/\(c:Int)*a-nb*b=s/\b<=a/\c+b<=nb+a/\1<=a/\l<=h
theorem E0.start(h:L<=H):E0 H L 1 H L 1 0 0 1:=
 ⟨Or.inl rfl,Y,Y,Y,Y,Y,Y,h⟩
theorem E0.step{l:Nat}(f:E0 H L s h l o nb v w)(hl:1<=l):
 E0 H L (-s) l (h%l) v w (o+h/l*v) (nb+h/l*w):=by
 obtain⟨m,b,c,d,a,n,p,t⟩:=f;have e:=Ca h l;have hq:1<=h/l:=(Fu Y).2 Y;have u:h%l<l:=Ce _ Y;generalize h/l=q at *;generalize h%l=r at *;subst e;have i:q*v<=q*w:=As q a;have j:(q-1)*v<=(q-1)*w:=As _ a;have k:(q-1)*v+v=q*v:=by
  rw[<-Nat.succ_mul];congr 1;omega
 have g:(q-1)*w+w=q*w:=by
  rw[<-Nat.succ_mul];congr 1;omega
 refine⟨Y,by rw[b];grind,by rw[c];grind,?_,Y,Y,Y,Y⟩;rw[<-d];push_cast
 grind
theorem E0.small{l:Nat}(a:E0 H L s h l o nb v w)(hl:1<=l):nb+w<=H/\o+v<=L:=by
 obtain⟨f,g,i,j,k,m,n,p⟩:=a;have b:nb<=nb*l:=Ct nb hl;have c:w<=w*h:=Ct w Y;have d:o<=o*l:=Ct o hl;have e:v<=v*h:=Ct v Y;omega
def F2(A B b pb a nb:Nat):Prop:=
 A=pb*YX (a*A) (nb*B)+nb*YX (b*A) (pb*B)/\B=b*YX (a*A) (nb*B)+a*YX (b*A) (pb*B)/\
 YX (a*A) (nb*B)<YX (b*A) (pb*B)/\1<=nb
theorem Nu{x:Nat}{z:Int}(a:0<=z)(h:z=(x:Int)-y\/z=(y:Int)-x):(YX x y:Int)=z:=by
 unfold YX;omega
theorem E0.out{S al be l:Nat}(K:E0 H L s h l o nb v w)(F:A=H*S+al)(G:B=L*S+be)(p:al<S)(q:be<S)
(hl:w<=l)(I:nb+w<=h-l):F2 A B o nb v w:=by
 obtain⟨b,y,z,d,C,D,E,N⟩:=K;have k:(H:Int)=nb*l+w*h:=by rw[y];push_cast;rfl
 have m:(L:Int)=o*l+v*h:=by rw[z];push_cast;rfl
 have i:(A:Int)=H*S+al:=by rw[F];push_cast;rfl
 have j:(B:Int)=L*S+be:=by rw[G];push_cast;rfl
 have c:s*s=1:=by rcases b with rfl|rfl<;>rfl
 obtain⟨X,e⟩:∃X:Int,X=s*(o*A-nb*B):=⟨_,rfl⟩;obtain⟨a,f⟩:∃a:Int,a=-s*(v*A-w*B):=⟨_,rfl⟩;have x1:X=(h:Int)*S+s*(o*al-nb*be):=by
  have:X=(s*(o*w-nb*v))*h*S+s*(o*al-nb*be):=by rw[e,i,j,k,m];grind
  rw[this,d,c];grind
 have r:a=(l:Int)*S-s*(v*al-w*be):=by
  have:a=(s*(o*w-nb*v))*l*S-s*(v*al-w*be):=by rw[f,i,j,k,m];grind
  rw[this,d,c];grind
 have c1:(v:Int)*al<=w*al:=by exact_mod_cast Aj al C
 have c2:(w:Int)*al<w*S:=by exact_mod_cast Fb p Y
 have c3:(w:Int)*be<w*S:=by exact_mod_cast Fb q Y
 have M:(w:Int)*S<=l*S:=by exact_mod_cast Aj S hl
 have d1:((o+v:Nat):Int)*al<=(nb+w:Nat)*al:=by exact_mod_cast Aj al D
 have t:((nb+w:Nat):Int)*al<(nb+w:Nat)*S:=by exact_mod_cast Fb p Y
 have u:((nb+w:Nat):Int)*be<(nb+w:Nat)*S:=by exact_mod_cast Fb q Y
 have g:((nb+w:Nat):Int)*S<=(h-l:Nat)*S:=by exact_mod_cast Aj S I
 have x:((h-l:Nat):Int)=h-l:=Y
 rw[x]at g;simp only[Int.natCast_add,Int.add_mul,Int.sub_mul]at d1 t u g;have R:(0:Int)<=w*be:=by exact_mod_cast AK _
 have T:(0:Int)<=v*al:=by exact_mod_cast AK _
 have U:(0:Int)<=o*al:=by exact_mod_cast AK _
 have V:(0:Int)<=nb*be:=by exact_mod_cast AK _
 have Q:0<a:=by
  rw[r];rcases b with rfl|rfl<;>omega
 have P:a<X:=by
  rw[x1,r];rcases b with rfl|rfl<;>omega
 have ex:(YX (o*A) (nb*B):Int)=X:=Nu Y (by push_cast;rw[e];rcases b with rfl|rfl<;>omega);have n:(YX (v*A) (w*B):Int)=a:=Nu Y (by push_cast;rw[f];rcases b with rfl|rfl<;>omega);refine⟨?_,?_,Y,E⟩
 . have:(A:Int)=nb*a+w*X:=by
    have:(nb:Int)*a+w*X=(s*(o*w-nb*v))*A:=by rw[e,f];grind
    rw[this,d,c];omega
   rw[<-ex,<-n]at this;exact_mod_cast this
 . have:(B:Int)=o*a+v*X:=by
    have:(o:Int)*a+v*X=(s*(o*w-nb*v))*B:=by rw[e,f];grind
    rw[this,d,c];omega
   rw[<-ex,<-n]at this;exact_mod_cast this
theorem F2.gcd{A B d pb c nb:Nat}(h:F2 A B d pb c nb):Nat.gcd (YX (d*A) (pb*B)) (YX (c*A) (nb*B))=Nat.gcd A B:=by
 obtain⟨f,i,_,_⟩:=h;apply Nat.dvd_antisymm
 . have a:=FB (YX (d*A) (pb*B)) (YX (c*A) (nb*B));have b:=CZ (YX (d*A) (pb*B)) (YX (c*A) (nb*B));generalize Nat.gcd (YX (d*A) (pb*B)) (YX (c*A) (nb*B))=g at *;apply Nat.dvd_gcd
   . rw[f];exact Nat.dvd_add (Cs b _) (Cs a _)
   . rw[i];exact Nat.dvd_add (Cs b _) (Cs a _)
 . have a:=FB A B;have b:=CZ A B;generalize Nat.gcd A B=g at *;have e:∀x y:Nat,g∣YX (x*A) (y*B):=λx y=>by
    unfold YX;exact Nat.dvd_add (Nat.dvd_sub (Cs a _) (Cs b _)) (Nat.dvd_sub (Cs b _) (Cs a _))
   exact Nat.dvd_gcd (e _ _) (e _ _)
theorem F2.less{pb:Nat}(h:F2 A B o pb v nb)(hp:pb≠0)(g:0<B):YX (o*A) (pb*B)+YX (v*A) (nb*B)<A+B:=by
 obtain⟨c,d,e,f⟩:=h;have a:YX (v*A) (nb*B)<=pb*YX (v*A) (nb*B):=C5 _ Y;have b:YX (o*A) (pb*B)<=nb*YX (o*A) (pb*B):=C5 _ Y;omega
def Xa(f:UInt8->Bool)(l:List UInt8)(i:Nat):Nat:=i+((l.drop i).takeWhile f).length
def DI(l:List UInt8)(i:Nat):Nat:=Xa (·==32) l i
def EU(l:List UInt8)(i:Nat):Nat:=Xa DR l i
theorem R1(e:n<=l.length)(a:∀k (h:k<n),f l[k]=true)(b:∀h:n<l.length,f l[n]=false):(l.takeWhile f).length=n:=by
 induction l generalizing n with
 |nil=>simp at e ⊢;omega
 |cons c t g=>
  cases n with
  |zero=>
   have:=b Z;simp at this;rw[List.takeWhile_cons_of_neg (by simp[this])];rfl
  |succ n=>
   have:=a 0 Y;simp at this;rw[List.takeWhile_cons_of_pos this,Ah,g (n:=n) (by simpa using e) (λk d=>a (k+1) Y) λd=>b (by simpa using d)]
theorem KK(d:i<=j)(g:j<=l.length)(b:∀k (h:k<l.length),i<=k->k<j->f l[k]=true)(c:∀h:j<l.length,f l[j]=false):Xa f l i=j:=by
 unfold Xa;rw[R1 (n:=j-i) (by rw[AP];omega)]
 . omega
 . intro k a;rw[CY];exact b _ _ Y Y
 . intro a;rw[CY];rw[AP]at a;have e:i+(j-i)=j:=Y
   have:=c Y;simp only[e];exact this
theorem Lj(f:UInt8->Bool)(l:List UInt8):(l.takeWhile f).length<=l.length/\(∀k (h:k<l.length),k<(l.takeWhile f).length->f l[k]=true)/\∀h:(l.takeWhile f).length<l.length,f (l[(l.takeWhile f).length]'h)=false:=by
 induction l with
 |nil=>simp
 |cons c t d=>
  by_cases a:f c=true
  . rw[List.takeWhile_cons_of_pos a];refine⟨by simp only[Ah];omega,λk b h=>?_,λh=>?_⟩
    . cases k with
      |zero=>simpa using a
      |succ k=>simpa using d.2.1 k (by simpa using b) (by simpa using h)
    . simp only[Ah,List.getElem_cons_succ];exact d.2.2 (by simpa using h)
  . rw[List.takeWhile_cons_of_neg (by simpa using a)];refine⟨Z,λk b h=>by simp at h,λh=>by simpa using a⟩
theorem Lk(f:UInt8->Bool)(l:List UInt8)(i:Nat):i<=Xa f l i:=Nat.le_add_right _ _
theorem Ll(a:i<=l.length):Xa f l i<=l.length:=by
 have:=(Lj f (l.drop i)).1;rw[AP]at this;unfold Xa;omega
theorem R3(b:i<=k)(a:k<Xa f l i)(h:k<l.length):f l[k]=true:=by
 have:=(Lj f (l.drop i)).2.1 (k-i) (by rw[AP];omega) (by unfold Xa at a;omega);rw[CY]at this;have e:i+(k-i)=k:=Y
 simpa only[e]using this
theorem Lm(h:Xa f l i<l.length):f (l[Xa f l i]'h)=false:=by
 have a:((l.drop i).takeWhile f).length<(l.drop i).length:=by
  rw[AP];unfold Xa at h;omega
 have:=(Lj f (l.drop i)).2.2 a;rw[CY]at this;exact this
theorem R4(f:UInt8->Bool)(l:List UInt8)(i:Nat):Xa f l (Xa f l i)=Xa f l i:=by
 rcases AX (Xa f l i) l.length with h|h
 . exact KK (Aa _) Y (λk _ b c=>by omega) λa=>Lm a
 . unfold Xa;rw[show i+((l.drop i).takeWhile f).length=Xa f l i from rfl,A2 h];rfl
def Xw(l:List UInt8)(j:Nat)(c:UInt8):Bool:=l[j]?==some c
abbrev Rd(α:Type):=EStateM.Result Nat Nat α
def Xx(l:List UInt8)(i:Nat):Rd (List UInt8 × Nat):=
 if EU l (DI l i)=DI l i then .error 2 (DI l i)
 else if 12<EU l (DI l i)-DI l i then .error 3 (DI l i)
 else .ok (((l.drop (DI l i)).take (EU l (DI l i)-DI l i)),DI l i) (EU l (DI l i))
def YU(l:List UInt8)(i:Nat):Rd Rat:=
 match Xx l i with
 |.error e p=>.error e p
 |.ok (ds,_) k=>
  if Xw l (DI l k) 47 then
   match Xx l (DI l k+1)with
   |.error e p=>.error e p
   |.ok (a,p) m=>if num a=0 then .error 4 p else .ok (Rat.divInt (num ds) (num a)) m
  else .ok ((num ds:Int):Rat) (DI l k)
def EP(l:List UInt8)(i:Nat):Rd Nat:=
 if Xw l (DI l i) 94 then
  match Xx l (DI l i+1)with
  |.error e p=>.error e p
  |.ok (ds,p) k=>if 8<num ds then .error 3 p else .ok (num ds) k
 else .ok 1 (DI l i)
def Eo(l:List UInt8)(j:Nat):Bool:=(l[j]?.map DR).getD false
def Xq(l:List UInt8)(i:Nat):Rd (Rat × Nat):=
 if Eo l (DI l i)then
  match YU l (DI l i)with
  |.error e p=>.error e p
  |.ok c k=>
   if Xw l (DI l k) 120 then
    match EP l (DI l k+1)with
    |.error e p=>.error e p
    |.ok n m=>.ok (c,n) m
   else .ok (c,0) (DI l k)
 else if Xw l (DI l i) 120 then
  match EP l (DI l i+1)with
  |.error e p=>.error e p
  |.ok n m=>.ok (1,n) m
 else .error 2 (DI l i)
def EW(l:List UInt8):Nat->Bool->Nat->List Rat->Rd (List Rat)
 |0,_,i,_=>.error 0 i
 |f+1,b,i,s=>
  match Xq l i with
  |.error e p=>.error e p
  |.ok (c,n) k=>
   let a:=s.set n (if b then cf s n-c else cf s n+c)
   if Xw l (DI l k) 43 then EW l f false (DI l k+1) a
   else if Xw l (DI l k) 45 then EW l f true (DI l k+1) a
   else if DI l k=l.length then .ok a (DI l k)
   else .error 2 (DI l k)
def F3(l:List UInt8):List Rat × Nat × Nat:=
 if 300<l.length then([],1,0)
 else
  match (if Xw l (DI l 0) 45 then EW l (l.length+1) true (DI l 0+1) (List.replicate 9 0)else EW l (l.length+1) false (DI l 0) (List.replicate 9 0))with
  |.error e p=>([],e,p)
  |.ok s _=>(Jd s,0,0)
theorem Gj{ds:List UInt8}(e:i<=l.length)(h:Xx l i=.ok (ds,p) k):p=DI l i/\k=EU l p/\i<=p/\p<k/\k<=l.length/\k-p<=12/\ds=(l.drop p).take (k-p)/\ds.length=k-p/\ds.all DR=true:=by
 unfold Xx at h;split at h
 . cases h
 . split at h
   . cases h
   . rename_i m o;simp only[EStateM.Result.ok.injEq,Fj]at h;obtain⟨⟨rfl,rfl⟩,rfl⟩:=h;have j:DI l i<=l.length:=Ll e;have q:DI l i<=EU l (DI l i):=Lk _ _ _;have b:EU l (DI l i)<=l.length:=Ll j;have a:((l.drop (DI l i)).take (EU l (DI l i)-DI l i)).length=EU l (DI l i)-DI l i:=by rw[Am,AP];omega
     refine⟨rfl,rfl,Lk _ _ _,Y,b,Y,rfl,a,?_⟩;rw[A4];intro c d;obtain⟨n,g,rfl⟩:=Fz.1 d;rw[a]at g;rw[List.getElem_take,CY];exact R3 (f:=DR) (i:=DI l i) Y (by show _<EU l (DI l i);omega) Y
theorem Lo{ds:List UInt8}(a:i<=l.length)(h:Xx l i=.ok (ds,p) k):i<k/\k<=l.length:=by
 have:=Gj a h;omega
theorem XE(h:Xw l j c=true):j<l.length:=by
 unfold Xw at h;rcases AX j l.length with a|a
 . exact a
 . rw[AF a]at h;simp at h
theorem FX(a:i<=l.length):DI l i<=l.length:=Ll a
theorem Ie(l:List UInt8)(i:Nat):i<=DI l i:=Lk _ _ _
theorem Nv{c:Rat}(f:i<=l.length)(h:YU l i=.ok c k):i<k/\k<=l.length:=by
 unfold YU at h;split at h
 . cases h
 . rename_i ds p g b;have d:=Lo f b;have n:=Ie l g;have o:=FX d.2;split at h
   . rename_i a;have a:=XE a;split at h
     . cases h
     . rename_i j r m e;have q:=Lo Y e;split at h
       . cases h
       . cases h;omega
   . cases h;omega
theorem Nw(c:i<=l.length)(h:EP l i=.ok n k):i<=k/\k<=l.length/\n<=8:=by
 unfold EP at h;have e:=Ie l i;have f:=FX c;split at h
 . rename_i a;have a:=XE a;split at h
   . cases h
   . rename_i d j m b;have g:=Lo Y b;split at h
     . cases h
     . cases h;omega
 . cases h;omega
theorem R5{c:Rat}(j:i<=l.length)(h:Xq l i=.ok (c,n) k):i<k/\k<=l.length/\n<=8:=by
 unfold Xq at h;have q:=Ie l i;have f:=FX j;split at h
 . split at h
   . cases h
   . rename_i c' o d;have e:=Nv f d;have r:=Ie l o;have s:=FX e.2;split at h
     . rename_i a;have a:=XE a;split at h
       . cases h
       . rename_i p m b;have g:=Nw Y b;cases h;omega
     . cases h;omega
 . split at h
   . rename_i a;have a:=XE a;split at h
     . cases h
     . rename_i p m b;have g:=Nw Y b;cases h;omega
   . cases h
