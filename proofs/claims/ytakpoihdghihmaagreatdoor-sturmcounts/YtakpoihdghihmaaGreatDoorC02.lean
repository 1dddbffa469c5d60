import Init
import Derived.Test.YtakpoihdghihmaaGreatDoorC01
set_option maxRecDepth 100000
set_option maxHeartbeats 16000000
namespace Go.Proofs.YtakpoihdghihmaaGreatDoor
theorem DM:type_of% @Nat.mul_pos:=@Nat.mul_pos
theorem Bv:type_of% @UInt8.toNat_inj:=@UInt8.toNat_inj
theorem Bg:type_of% @decide_eq_false_iff_not:=@decide_eq_false_iff_not
theorem BQ:type_of% @decide_eq_true_eq:=@decide_eq_true_eq
def val(B:Nat):List Nat->Nat
 |[]=>0
 |d::ds=>d+B*val B ds
def DQ(B:Nat)(ds:List Nat):Prop:=∀d∈ds,d<B
def Je(B n:Nat):List Nat:=
 if _h:n=0\/B<2 then []else n%B::Je B (n/B)
termination_by n
decreasing_by
 have a:n≠0:=λe=>_h (Or.inl e);have _h2:¬B<2:=λe=>_h (Or.inr e);exact Nat.div_lt_self O O
def JA:List Nat->List Nat
 |[]=>[]
 |d::ds=>match JA ds with
  |[]=>if d=0 then []else [d]
  |e::es=>d::e::es
variable{s:Int}{a b ds:List Nat}{l:List UInt8}{A B E H L R V d d0 d1 g h i j k lo lo2 m n nb o p q r u u1 v w y:Nat}{c:UInt8}{f:UInt8->Bool}
theorem DQ.nil(B:Nat):DQ B []:=λ_ h=>by cases h
theorem DQ.cons(h:d<B)(k:DQ B ds):DQ B (d::ds):=λx a=>by
 rcases FS.1 a with rfl|a
 . exact h
 . exact k x a
theorem DQ.head(h:DQ B (d::ds)):d<B:=h d (CM ..)
theorem DQ.tail(h:DQ B (d::ds)):DQ B ds:=λx a=>h x (F2 _ a)
theorem DQ.append(h:DQ B a)(k:DQ B b):DQ B (a++b):=λx c=>by
 rcases Fm.1 c with c|c
 . exact h x c
 . exact k x c
theorem Lh(B:Nat):val B []=0:=rfl
theorem Yi(B d:Nat)(ds:List Nat):val B (d::ds)=d+B*val B ds:=rfl
theorem val_append(B:Nat):∀(a b:List Nat),val B (a++b)=val B a+B^a.length*val B b
 |[],b=>by simp[val]
 |d::a,b=>by
  simp only[AN,Yi,val_append B a b,Ai,AZ];rw[AB,At (B^a.length) B,AA,Fh]
theorem YB{B:Nat}:∀ {ds:List Nat},DQ B ds->val B ds<B^ds.length
 |[],_=>by simp[val]
 |d::ds,h=>by
  have b:=h.head;have a:=YB h.tail;simp only[Yi,Ai,AZ];have c:B*val B ds+B<=B*B^ds.length:=by
   rw[<-Nat.mul_succ];exact Ap _ a
  rw[At (B^ds.length) B];omega
theorem JH(B:Nat):Je B 0=[]:=by rw[Je];simp
theorem KE(b:2<=B)(a:n≠0):Je B n=n%B::Je B (n/B):=by
 rw[Je];rw[dif_neg];intro h;rcases h with h|h
 . exact a h
 . omega
theorem Jq(b:2<=B)(n:Nat):val B (Je B n)=n:=by
 induction n using Nat.strongRecOn with
 |ind n c=>
  by_cases a:n=0
  . subst a;rw[JH];rfl
  . rw[KE b a,Yi,c _ (Nat.div_lt_self O O)];exact Nat.mod_add_div n B
theorem Ju(b:2<=B)(n:Nat):DQ B (Je B n):=by
 induction n using Nat.strongRecOn with
 |ind n c=>
  by_cases a:n=0
  . subst a;rw[JH];exact DQ.nil B
  . rw[KE b a];exact DQ.cons (Ci _ O) (c _ (Nat.div_lt_self O O))
theorem JR(a:2<=B):Je B n=[]↔n=0:=by
 constructor
 . intro h;have:=Jq a n;rw[h]at this;exact this.symm
 . intro h;rw[h,JH]
theorem Yx(h:JA ds=[]):JA (d::ds)=if d=0 then []else [d]:=by
 simp only[JA,h]
theorem YT(h:JA ds≠[]):JA (d::ds)=d::JA ds:=by
 simp only[JA];cases a:JA ds with
 |nil=>exact absurd a h
 |cons e b=>rfl
theorem MU(B:Nat):∀(ds:List Nat),val B (JA ds)=val B ds
 |[]=>rfl
 |d::ds=>by
  by_cases h:JA ds=[]
  . have:=MU B ds;rw[h]at this;rw[Yx h,Yi,<-this];by_cases a:d=0
    . simp[a,val]
    . simp[a,val]
  . rw[YT h,Yi,Yi,MU B ds]
theorem Yg{B:Nat}(j:2<=B):∀ {ds:List Nat},DQ B ds->Je B (val B ds)=JA ds
 |[],_=>by rw[Lh,JH];rfl
 |d::ds,h=>by
  have i:=h.head;have g:=Yg j h.tail;rw[Yi];by_cases f:d+B*val B ds=0
  . have c:d=0:=O
    have e:val B ds=0:=by
     rcases A9 (val B ds)with b|b
     . exact b
     . have:0<B*val B ds:=DM O b
       omega
    rw[e,JH]at g;rw[f,JH,Yx g.symm,BC c]
  . rw[KE j f];have k:(d+B*val B ds)%B=d:=by rw[C5];exact CA i
    have l:(d+B*val B ds)/B=val B ds:=by
     rw[Fp _ _ O,Cv i,Ch]
    rw[k,l,g];by_cases a:JA ds=[]
    . rw[Yx a,a];have e:val B ds=0:=by rw[<-MU B ds,a];rfl
      rw[BB];intro c;apply f;rw[c,e];simp
    . rw[YT a]
def Hq(ds:List Nat):Prop:=JA ds=ds
theorem Xb(a:2<=B)(n:Nat):Hq (Je B n):=by
 have h:=Yg a (Ju a n);rw[Jq a]at h;exact h.symm
theorem XY(a:2<=B)(h:DQ B ds)(b:Hq ds):Je B (val B ds)=ds:=(Yg a h).trans b
theorem XZ:∀(ds:List Nat) {d:Nat},d≠0->JA (ds++[d])=ds++[d]
 |[],d,h=>by simp[JA,h]
 |e::ds,d,h=>by
  have a:=XZ ds h;rw[AN,YT (by rw[a];simp),a]
theorem X4:∀(ds:List Nat),JA (ds++[0])=JA ds
 |[]=>by simp[JA]
 |e::ds=>by
  have a:=X4 ds;by_cases h:JA ds=[]
  . rw[AN,Yx (by rw[a];exact h),Yx h]
  . rw[AN,YT (by rw[a];exact h),YT h,a]
theorem RF(ds:List Nat)(k:Nat)(n:k<=ds.length)(a:∀j,k<=j->j<ds.length->ds[j]?=some 0):JA (ds.take k)=JA ds:=by
 obtain⟨m,f⟩:∃m,ds.length=k+m:=⟨ds.length-k,O⟩;induction m generalizing ds with
 |zero=>rw[Ac O]
 |succ m g=>
  have hl:ds=ds.take (k+m)++[0]:=by
   apply List.ext_getElem?;intro i;by_cases d:i<k+m
   . rw[AO (by rw[Ak];omega),AV d]
   . by_cases e:i=k+m
     . subst e;rw[AG (by rw[Ak];omega),a _ O O];simp[List.length_take,f]
     . rw[As O,As];simp[List.length_take];omega
  have b:(ds.take (k+m)).length=k+m:=by rw[Ak];omega
  have:=g (ds.take (k+m)) O (by
   intro j c l;rw[AV O];exact a j c O) b
  rw[List.take_take,CR O]at this;rw[this];conv=>rhs;rw[hl]
  rw[X4]
theorem Vz(ds:List Nat)(k:Nat)(a:k<ds.length)(d:ds[k]?≠some 0)(b:∀j,k<j->j<ds.length->ds[j]?=some 0):JA ds=ds.take (k+1):=by
 rw[<-RF ds (k+1) O λj f c=>b j O c];rw[Cg a];refine XZ _ ?_;intro e;apply d;rw[Af a,e]
theorem WA(ds:List Nat)(a:∀j,j<ds.length->ds[j]?=some 0):JA ds=[]:=by
 have:=RF ds 0 O λj _ h=>a j h;rw[<-this];simp[JA]
theorem RG{B:Nat}:∀ {ds:List Nat},DQ B ds->DQ B (JA ds)
 |[],h=>h
 |d::ds,h=>by
  by_cases a:JA ds=[]
  . rw[Yx a];split
    . exact DQ.nil B
    . exact DQ.cons h.head (DQ.nil B)
  . rw[YT a];exact DQ.cons h.head (RG h.tail)
theorem RH:∀(ds:List Nat),(JA ds).length<=ds.length
 |[]=>by simp[JA]
 |d::ds=>by
  have:=RH ds;by_cases a:JA ds=[]
  . rw[Yx a];split<;>simp
  . rw[YT a];simp;omega
theorem YL(b:2<=B)(h:n<B^k):(Je B n).length<=k:=by
 induction k generalizing n with
 |zero=>
  have:n=0:=by simp at h;exact h
  rw[this,JH];simp
 |succ k c=>
  by_cases a:n=0
  . rw[a,JH];simp
  . rw[KE b a,Ai]
    have:n/B<B^k:=by
     apply Nat.div_lt_of_lt_mul;rw[At,<-AZ];exact h
    have:=c this;omega
theorem RI(b:2<=B)(h:(Je B n).length=k+1):B^k<=n:=by
 rcases AQ n (B^k)with a|a
 . have:=YL b a;omega
 . exact a
theorem Xc(a:2<=B)(h:(Je B m).length<(Je B n).length):m<n:=by
 have b:m<B^(Je B m).length:=by
  have:=YB (Ju a m);rwa[Jq a]at this
 have c:B^((Je B n).length-1)<=n:=RI a O;have d:B^(Je B m).length<=B^((Je B n).length-1):=Aw O O;omega
def Xz(m n:Nat):Int:=if m<n then -1 else if n<m then 1 else 0
theorem OU(m:Nat):Xz m m=0:=by simp[Xz]
theorem Hr(h:m<n):Xz m n=-1:=by simp[Xz,h]
theorem KF(h:n<m):Xz m n=1:=by
 have:¬m<n:=O
 simp[Xz,h,this]
theorem RJ(ds:List Nat)(k:Nat)(a:k<ds.length):val B ds=val B (ds.take k)+B^k*(ds[k]?.getD 0+B*val B (ds.drop (k+1))):=by
 have b:ds=ds.take k++(ds[k]?.getD 0::ds.drop (k+1)):=by
  rw[Af a];conv=>lhs;rw[<-Cw k ds,Cp a]
  rfl
 have c:(ds.take k).length=k:=by rw[Ak];omega
 conv=>lhs;rw[b]
 rw[val_append,Yi,c]
theorem DQ.take{B:Nat}{ds:List Nat}(h:DQ B ds)(k:Nat):DQ B (ds.take k):=λx a=>h x (Ff a)
theorem DQ.drop{B:Nat}{ds:List Nat}(h:DQ B ds)(k:Nat):DQ B (ds.drop k):=λx a=>h x (List.mem_of_mem_drop a)
theorem DQ.get(h:DQ B ds)(a:k<ds.length):ds[k]?.getD 0<B:=by
 rw[Af a];exact h _ (CU a)
theorem DQ.getD{B:Nat}{ds:List Nat}(h:DQ B ds)(b:0<B)(k:Nat):ds[k]?.getD 0<B:=by
 rcases AQ k ds.length with a|a
 . exact h.get a
 . rw[As a];exact b
theorem MV(e:DQ B a)(hl:a.length=b.length)(k:Nat)(g:k<a.length)(f:a.drop (k+1)=b.drop (k+1))(h:a[k]?.getD 0<b[k]?.getD 0):val B a<val B b:=by
 rw[RJ a k g,RJ b k O,<-f];have c:=YB (e.take k);have d:(a.take k).length=k:=by rw[Ak];omega
 rw[d]at c;have i:B^k*(a[k]?.getD 0+B*val B (a.drop (k+1)))+B^k<=B^k*(b[k]?.getD 0+B*val B (a.drop (k+1))):=by
  rw[<-Nat.mul_succ];exact Ap _ O
 omega
theorem RK(hl:a.length=b.length)(k:Nat)(c:k<a.length)(d:a.drop (k+1)=b.drop (k+1))(h:a[k]?.getD 0=b[k]?.getD 0):a.drop k=b.drop k:=by
 rw[Cp c,Cp (by omega:k<b.length),d];rw[Af c,Af (by omega:k<b.length)]at h;exact congrArg (·::_) h
theorem YW(c:2<=B)(d:DQ B a)(e:DQ B b)(ta:Hq a)(tb:Hq b)(h:a.length<b.length):val B a<val B b:=by
 apply Xc c;rw[XY c d ta,XY c e tb];exact h
theorem Jt(B:Nat)(ds:List Nat)(k:Nat):val B (ds.take (k+1))=val B (ds.take k)+B^k*ds[k]?.getD 0:=by
 rcases AQ k ds.length with h|h
 . rw[Cg h,val_append,Ak,CR O,Af h];simp[val]
 . rw[Ac O,Ac h,As h];simp
theorem Y1(B:Nat)(ds:List Nat)(d:Nat):val B (ds++[d])=val B ds+B^ds.length*d:=by
 rw[val_append];simp[val]
theorem RL(f:2<=B)(h:DQ B ds)(hp:ds=[]\/B^(ds.length-1)<=val B ds):Hq ds:=by
 rcases hp with rfl|hp
 . rfl
 . have c:=RH ds;rcases AQ (JA ds).length ds.length with k|g
   . have e:=YB (RG h);rw[MU]at e;have j:B^(JA ds).length<=B^(ds.length-1):=Aw O O;omega
   . have hl:(JA ds).length=ds.length:=O
     clear c g hp h f;unfold Hq;induction ds with
     |nil=>rfl
     |cons d ds i=>
      by_cases b:JA ds=[]
      . rw[Yx b]at hl ⊢;by_cases a:d=0
        . rw[BC a]at hl;simp at hl
        . rw[BB a]at hl ⊢;simp at hl;rw[hl]
      . rw[YT b]at hl ⊢;rw[i (by simpa using hl)]
theorem WB(a:List Nat)(c s A:Nat)(h:val B a+B^a.length*c=A):val B (a++[(c+s)%B])+B^(a.length+1)*((c+s)/B)=A+B^a.length*s:=by
 rw[Y1,AZ,AA,Fh,<-AB,Nat.mod_add_div,AB];omega
theorem XC(a:2<=B)(h:(Je B n).length=k)(b:k≠0):B^(k-1)<=n:=RI a O
theorem WC(b:2<=B){a:List Nat}(d:DQ B a)(e:val B a=m+n)
(hl:a.length<=max (Je B m).length (Je B n).length\/B^(a.length-1)<=val B a)(hle:max (Je B m).length (Je B n).length<=a.length):a=Je B (m+n):=by
 rw[<-e];refine(XY b d (RL b d ?_)).symm;by_cases c:a.length=0
 . exact Or.inl (Ao c)
 . right
   rcases hl with hl|hl
   . rcases Nat.le_total (Je B m).length (Je B n).length with h|h
     . have:=XC b (n:=n) (k:=a.length) O c;omega
     . have:=XC b (n:=m) (k:=a.length) O c;omega
   . exact hl
def MW(d:Nat):UInt8:=UInt8.ofNat (48+d)
def Kr(ds:List Nat):List UInt8:=(ds.map MW).reverse
def KG(n:Nat):List UInt8:=if n=0 then [48]else Kr (Je 10 n)
def Li(z:Int):List UInt8:=if z<0 then 45::KG z.natAbs else KG z.natAbs
theorem WD(ds:List Nat):(Kr ds).length=ds.length:=by simp[Kr]
theorem WE(i:Nat):(10:Nat)^(4*i)=10000^i:=by rw[Nat.pow_mul]
theorem RM(h:n≠0):KG n=Kr (Je 10 n):=by simp[KG,h]
def DZ(c:UInt8):Bool:=decide (48<=c.toNat)&&decide (c.toNat<=57)
def EH(l:List UInt8):List Nat:=(l.map λc=>c.toNat-48).reverse
def num(l:List UInt8):Nat:=val 10 (EH l)
def JU(l:List UInt8):List UInt8:=if l.head?=some 45 then l.tail else l
def good(l:List UInt8):Bool:=decide (l.length<=2000) && !(JU l).isEmpty&&(!decide ((JU l).head?=some 48) || decide (l=[48]))&&(JU l).all DZ
def Xe(l:List UInt8):Int:=if l.head?=some 45 then -(num (JU l):Int)else num (JU l)
theorem Ys(h:DZ c=true):48<=c.toNat/\c.toNat<=57:=by simpa[DZ]using h
theorem WF(h:d<10):(MW d).toNat=48+d:=by
 unfold MW;rw[UInt8.toNat_ofNat'];omega
theorem WG(h:DZ c=true):MW (c.toNat-48)=c:=by
 have a:=Ys h;apply Bv.1;rw[WF O];omega
theorem WH(l:List UInt8)(c:UInt8):EH (l++[c])=(c.toNat-48)::EH l:=by simp[EH]
theorem RO(l:List UInt8)(c:UInt8):num (l++[c])=(c.toNat-48)+10*num l:=by rw[num,WH,Yi];rfl
theorem WI(a b:List UInt8):EH (a++b)=EH b++EH a:=by simp[EH]
theorem Ks(l:List UInt8):(EH l).length=l.length:=by simp[EH]
theorem MX(a b:List UInt8):num (a++b)=num b+10^b.length*num a:=by rw[num,WI,val_append,Ks];rfl
theorem Lj(h:l.all DZ=true):DQ 10 (EH l):=by
 intro d a;simp only[EH,List.mem_reverse,CJ]at a;obtain⟨c,b,rfl⟩:=a;have:=Ys (Cj.1 h c b);omega
theorem WJ(h:l.all DZ=true):Kr (EH l)=l:=by
 simp only[Kr,EH,List.map_reverse,List.reverse_reverse,List.map_map];conv=>rhs;rw[<-List.map_id l]
 apply List.map_congr_left;intro c a;exact WG (Cj.1 h c a)
theorem WK(b:DZ c=true)(a:c≠48):Hq (EH (c::l)):=by
 have e:EH (c::l)=EH l++[c.toNat-48]:=by simp[EH]
 rw[e];refine XZ _ ?_;have:=Ys b;intro h;apply a;apply Bv.1;show c.toNat=48;omega
theorem RP(h:(c::l).all DZ=true)(b:c≠48):KG (num (c::l))=c::l/\num (c::l)≠0:=by
 have d:DZ c=true:=Cj.1 h c (CM ..);have e:=XY (B:=10) O (Lj h) (WK d b);have a:num (c::l)≠0:=by
  intro f;rw[show val 10 (EH (c::l))=0 from f,JH]at e;have:=congrArg List.length e;rw[Ks]at this;simp at this
 refine⟨?_,a⟩;rw[RM a,num,e,WJ h]
theorem WL(h:good l=true):Li (Xe l)=l:=by
 simp only[good,AU,BQ,Fu,CH,Bg]at h;obtain⟨⟨⟨_,g⟩,i⟩,f⟩:=h;cases a:JU l with
 |nil=>rw[a]at g;simp at g
 |cons c t=>
  rw[a]at i f;by_cases d:c=48
  . have hl:l=[48]:=by
     rcases i with h|h
     . exact absurd (by rw[d];rfl) h
     . exact h
    subst hl;simp[Xe,JU,Li,KG,num,EH,val]
  . obtain⟨e,j⟩:=RP f d;by_cases b:l.head?=some 45
    . have hl:l=45::c::t:=by
       cases l with
       |nil=>simp at b
       |cons x l'=>
        simp at b;subst b;simp[JU]at a;rw[a]
      rw[Xe,BC b,a,Li,BC O,FM,AK,e,hl]
    . have hl:l=c::t:=by rw[<-a,JU,BB b]
      rw[Xe,BB b,a,Li,BB O,AK,e,hl]
theorem WM(a:10<=B):(Je B n).length<=(Je 10 n).length:=by
 refine YL O ?_;have h:=YB (Ju (B:=10) O n);rw[Jq O]at h;exact AP h (Fw a _)
theorem WN(h:good l=true)(b:10<=B):(Je B (Xe l).natAbs).length<=2000:=by
 have e:=WL h;have hl:l.length<=2000:=by
  simp only[good,AU,BQ]at h;exact h.1.1.1
 rw[<-e]at hl;refine Am (WM b) ?_;by_cases a:(Xe l).natAbs=0
 . rw[a,JH];simp
 . have c:(KG (Xe l).natAbs).length=(Je 10 (Xe l).natAbs).length:=by rw[RM a,WD]
   unfold Li at hl;split at hl
   . simp at hl;omega
   . omega
def Lk(u u1 d1 d0 q r:Nat):Prop:=
 q*d1+r=u/\(u*4294967296+u1)/(d1*4294967296+d0)<=q/\q<=4294967297/\r<4294967296
theorem RQ(c:2147483648<=d1)(d:d1<4294967296)(b:d0<4294967296)(j:u1<4294967296)(i:u<d1*4294967296+d0):
 Lk u u1 d1 d0 (u/d1) (u%d1):=by
 have f:=Cl u d1;have g:u%d1<d1:=Ci _ O;have e:d1*(u/d1)=u/d1*d1:=At _ _;refine⟨O,?_,?_,O⟩
 . apply Fj;rw[Ca O];have a:(u/d1+1)*(d1*4294967296+d0)=u/d1*d1*4294967296+d1*4294967296+(u/d1+1)*d0:=by
    rw[AB,<-AA,AC (u/d1) 1 d1,CG,AC (u/d1*d1) d1]
   rw[Nat.succ_eq_add_one,a];generalize u/d1*d1=p at *;generalize (u/d1+1)*d0=z;omega
 . apply Fj;rw[Ca O];omega
theorem RR(h:Lk u u1 d1 d0 q r)(d:0<d1)(c:q*d0<=4294967296*r+u1):q=(u*4294967296+u1)/(d1*4294967296+d0):=by
 obtain⟨b,a,_,_⟩:=h;apply F5 _ a;rw[FH O,AB,<-AA];generalize q*d1=p at *;generalize q*d0=z at *;omega
theorem RS(h:Lk u u1 d1 d0 q r)(j:2147483648<=d1)(l:u1<4294967296)(k:u<d1*4294967296+d0)(a:4294967296<=q\/4294967296*r+u1<q*d0):
 1<=q/\(q-1)*d1+(r+d1)=u/\(u*4294967296+u1)/(d1*4294967296+d0)<=q-1/\q-1<=4294967296:=by
 obtain⟨c,d,f,g⟩:=h;have hq:1<=q:=by
  rcases a with a|a
  . omega
  . rcases A9 q with b|b
    . rw[b]at a;omega
    . exact b
 have e:(q-1)*d1+d1=q*d1:=by
  conv=>rhs;rw[show q=q-1+1 from by omega,AC,CG]
 refine⟨hq,O,?_,O⟩;apply Fj;rw[Nat.succ_eq_add_one,Nat.sub_add_cancel hq,Ca O];rcases a with a|a
 . have i:4294967296*(d1*4294967296+d0)<=q*(d1*4294967296+d0):=Ah _ a;omega
 . rw[AB,<-AA];generalize q*d1=p at *;generalize q*d0=z at *;omega
theorem MY(d:q*d1+r=u)(a:(u*4294967296+u1)/(d1*4294967296+d0)<=q)(b:q<=4294967296)(c:d0<4294967296)(f:0<d1)(g:4294967296<=r):q=(u*4294967296+u1)/(d1*4294967296+d0):=by
 apply F5 _ a;rw[FH O,AB,<-AA];have e:q*d0<=4294967296*d0:=Ah _ b;generalize q*d1=p at *;generalize q*d0=z at *;omega
theorem RT{t un0:Nat}(a:0<d):t/d*k+(t%d*k+un0)/d=(t*k+un0)/d/\(t%d*k+un0)%d=(t*k+un0)%d:=by
 have b:=Cl t d;have e:t*k+un0=d*(t/d*k)+(t%d*k+un0):=by
  conv=>lhs;rw[<-b,AC,AA]
  omega
 rw[e,Nat.mul_add_div a,Nat.mul_add_mod];exact⟨rfl,rfl⟩
theorem WO{a s:Nat}:(a*2^s)/(y*2^s)=a/y/\(a*2^s)%(y*2^s)=a%y*2^s:=
 ⟨Nat.mul_div_mul_right _ _ (Cm s),Nat.mul_mod_mul_right _ _ _⟩
def MZ(B u u1 d1 d0 q r:Nat):Prop:=
 q*d1+r=u/\(u*B+u1)/(d1*B+d0)<=q/\q<B/\r<B
theorem WP(a:0<d1)(f:d1<B)(j:u1<B)(d:u<d1*B):MZ B u u1 d1 d0 (u/d1) (u%d1):=by
 have g:=Cl u d1;have i:u%d1<d1:=Ci _ a;have e:d1*(u/d1)=u/d1*d1:=At _ _;have hp:0<d1*B:=DM a O;refine⟨O,?_,?_,O⟩
 . apply Fj;rw[Ca O,Nat.succ_eq_add_one];have b:(u/d1+1)*(d1*B+d0)=(u/d1*d1+d1)*B+(u/d1+1)*d0:=by grind
   rw[b];have c:(u+1)*B<=(u/d1*d1+d1)*B:=Ah _ O;rw[AC,CG]at c;generalize (u/d1+1)*d0=z;omega
 . rw[Ca a,At];exact d
theorem OV(a:q*d1+r=u)(b:(u*B+u1)/(d1*B+d0)<=q)(d:0<d1*B)(c:q*d0<=r*B+u1):q=(u*B+u1)/(d1*B+d0):=by
 apply F5 _ b;rw[FH O,AB,<-AA,<-a,AC];omega
theorem WR(h:MZ B u u1 d1 d0 q r)(i:0<d1*B)(c:r*B+u1<q*d0):
 1<=q/\(q-1)*d1+(r+d1)=u/\(u*B+u1)/(d1*B+d0)<=q-1/\q-1<B:=by
 obtain⟨b,d,f,g⟩:=h;have hq:1<=q:=by
  rcases A9 q with a|a
  . rw[a]at c;omega
  . exact a
 have e:(q-1)*d1+d1=q*d1:=by
  rw[<-Nat.succ_mul];congr 1;omega
 refine⟨hq,O,?_,O⟩;apply Fj;rw[Nat.succ_eq_add_one,Nat.sub_add_cancel hq,Ca O,AB,<-AA,<-b,AC];omega
theorem WS(a:q*d1+r=u)(b:(u*B+u1)/(d1*B+d0)<=q)(f:q<B)(e:d0<B)(c:0<d1*B)(d:B<=r):q=(u*B+u1)/(d1*B+d0):=by
 apply OV a b c;have g:q*d0<=B*d0:=Ah _ O;have i:B*d0<=B*B:=Ap _ O;have j:B*B<=r*B:=Ah _ d;omega
def IE(R V g:Nat):Prop:=R<(g+1)*V/\g*V<=R+V
theorem WT{T:Nat}(c:R=T*E+lo)(a:V=o*E+lo2)(k:lo<E)(l:lo2<E)(p:T/o<=o)(i:0<o):IE R V (T/o):=by
 have m:=Cl T o;have n:=Ci T i;generalize T/o=g at *;generalize T%o=t at *;have d:(T+1)*E<=(o*g+o)*E:=Ah _ O;have e:(g+1)*V=(o*g+o)*E+(g+1)*lo2:=by rw[a];grind
 have j:g*lo2<=g*E:=Ap _ O;have b:(o*g+g)*E<=(T+o)*E:=Ah _ O;have f:g*V=o*g*E+g*lo2:=by rw[a];grind
 rw[AC]at d b;refine⟨?_,?_⟩
 . rw[e,c];generalize (g+1)*lo2=z;omega
 . rw[f,c,a];rw[AC]at b;omega
theorem WU(a:R=d1*(B*E)+lo)(d:V=d1*E+lo2)(i:lo2<E)(k:B<=2*d1)(b:R<V*B)(j:2<=B):IE R V (B-1):=by
 refine⟨by rw[Nat.sub_add_cancel O,At];exact b,?_⟩;obtain⟨c,rfl⟩:∃c,B=c+2:=⟨B-2,O⟩;rw[show c+2-1=c+1 from by omega,AC,CG];apply Fq;rw[a,d,AB];have e:c*lo2<=c*E:=Ap _ O;have f:c*E<=2*d1*E:=Ah _ O;have g:d1*((c+2)*E)=c*(d1*E)+2*d1*E:=by grind
 omega
theorem WV(h:IE R V g)(hq:q+V*g=R):g=R/V/\q=R%V:=by
 have c:g*V=V*g:=At _ _;have b:=h.1;rw[AC,CG]at b;have a:q<V:=O
 rw[<-hq];exact⟨by rw[Fp _ _ O,Cv a,Ch],by rw[C5,CA a]⟩
theorem WW{P q2 c2:Nat}(h:IE R V g)(hq:q+V*g=R+P)(n:q<P)(l:q2+P*c2=q+V)(m:q2<P)(j:c2<=1):1<=g/\g-1=R/V/\q2=R%V:=by
 have i:=h.2;have k:g*V=V*g:=At _ _;have c:1<=g:=by
  rcases A9 g with a|a
  . rw[a]at hq;omega
  . exact a
 have e:V*(g-1)+V=V*g:=by rw[<-Nat.mul_succ];congr 1;omega
 have f:c2=1:=by
  rcases(by omega:c2=0\/c2=1)with a|a
  . subst a;omega
  . exact a
 subst f;have d:q2+V*(g-1)=R:=O
 have b:q2<V:=O
 rw[<-d];exact⟨c,by rw[Fp _ _ O,Cv b,Ch],by rw[C5,CA b]⟩
def XD(x y:Nat):Nat:=(x-y)+(y-x)
def Hc(H L:Nat)(s:Int)(h l c nb b a:Nat):Prop:=
 (s=1\/s=-1)/\H=nb*l+a*h/\L=c*l+b*h/\(c:Int)*a-nb*b=s/\b<=a/\c+b<=nb+a/\1<=a/\l<=h
theorem Hc.start(h:L<=H):Hc H L 1 H L 1 0 0 1:=
 ⟨Or.inl rfl,O,O,O,O,O,O,h⟩
theorem Hc.step{l:Nat}(f:Hc H L s h l o nb v w)(hl:1<=l):
 Hc H L (-s) l (h%l) v w (o+h/l*v) (nb+h/l*w):=by
 obtain⟨m,b,c,d,a,n,p,t⟩:=f;have e:=Cl h l;have hq:1<=h/l:=(FH O).2 O;have u:h%l<l:=Ci _ O;generalize h/l=q at *;generalize h%l=r at *;subst e;have i:q*v<=q*w:=Ap q a;have j:(q-1)*v<=(q-1)*w:=Ap _ a;have k:(q-1)*v+v=q*v:=by
  rw[<-Nat.succ_mul];congr 1;omega
 have g:(q-1)*w+w=q*w:=by
  rw[<-Nat.succ_mul];congr 1;omega
 refine⟨O,by rw[b];grind,by rw[c];grind,?_,O,O,O,O⟩;rw[<-d];push_cast
 grind
theorem Hc.small{l:Nat}(a:Hc H L s h l o nb v w)(hl:1<=l):nb+w<=H/\o+v<=L:=by
 obtain⟨f,g,i,j,k,m,n,p⟩:=a;have b:nb<=nb*l:=Co nb hl;have c:w<=w*h:=Co w O;have d:o<=o*l:=Co o hl;have e:v<=v*h:=Co v O;omega
def IR(A B b pb a nb:Nat):Prop:=
 A=pb*XD (a*A) (nb*B)+nb*XD (b*A) (pb*B)/\B=b*XD (a*A) (nb*B)+a*XD (b*A) (pb*B)/\
 XD (a*A) (nb*B)<XD (b*A) (pb*B)/\1<=nb
theorem RU{x:Nat}{z:Int}(a:0<=z)(h:z=(x:Int)-y\/z=(y:Int)-x):(XD x y:Int)=z:=by
 unfold XD;omega
theorem Hc.out{S al be l:Nat}(K:Hc H L s h l o nb v w)(F:A=H*S+al)(G:B=L*S+be)(p:al<S)(q:be<S)
(hl:w<=l)(I:nb+w<=h-l):IR A B o nb v w:=by
 obtain⟨b,y,z,d,C,D,E,N⟩:=K;have k:(H:Int)=nb*l+w*h:=by rw[y];push_cast;rfl
 have m:(L:Int)=o*l+v*h:=by rw[z];push_cast;rfl
 have i:(A:Int)=H*S+al:=by rw[F];push_cast;rfl
 have j:(B:Int)=L*S+be:=by rw[G];push_cast;rfl
 have c:s*s=1:=by rcases b with rfl|rfl<;>rfl
 obtain⟨X,e⟩:∃X:Int,X=s*(o*A-nb*B):=⟨_,rfl⟩;obtain⟨a,f⟩:∃a:Int,a=-s*(v*A-w*B):=⟨_,rfl⟩;have x1:X=(h:Int)*S+s*(o*al-nb*be):=by
  have:X=(s*(o*w-nb*v))*h*S+s*(o*al-nb*be):=by rw[e,i,j,k,m];grind
  rw[this,d,c];grind
 have r:a=(l:Int)*S-s*(v*al-w*be):=by
  have:a=(s*(o*w-nb*v))*l*S-s*(v*al-w*be):=by rw[f,i,j,k,m];grind
  rw[this,d,c];grind
 have c1:(v:Int)*al<=w*al:=by exact_mod_cast Ah al C
 have c2:(w:Int)*al<w*S:=by exact_mod_cast FG p O
 have c3:(w:Int)*be<w*S:=by exact_mod_cast FG q O
 have M:(w:Int)*S<=l*S:=by exact_mod_cast Ah S hl
 have d1:((o+v:Nat):Int)*al<=(nb+w:Nat)*al:=by exact_mod_cast Ah al D
 have t:((nb+w:Nat):Int)*al<(nb+w:Nat)*S:=by exact_mod_cast FG p O
 have u:((nb+w:Nat):Int)*be<(nb+w:Nat)*S:=by exact_mod_cast FG q O
 have g:((nb+w:Nat):Int)*S<=(h-l:Nat)*S:=by exact_mod_cast Ah S I
 have x:((h-l:Nat):Int)=h-l:=O
 rw[x]at g;simp only[Int.natCast_add,Int.add_mul,Int.sub_mul]at d1 t u g;have R:(0:Int)<=w*be:=by exact_mod_cast Az _
 have T:(0:Int)<=v*al:=by exact_mod_cast Az _
 have U:(0:Int)<=o*al:=by exact_mod_cast Az _
 have V:(0:Int)<=nb*be:=by exact_mod_cast Az _
 have Q:0<a:=by
  rw[r];rcases b with rfl|rfl<;>omega
 have P:a<X:=by
  rw[x1,r];rcases b with rfl|rfl<;>omega
 have ex:(XD (o*A) (nb*B):Int)=X:=RU O (by push_cast;rw[e];rcases b with rfl|rfl<;>omega);have n:(XD (v*A) (w*B):Int)=a:=RU O (by push_cast;rw[f];rcases b with rfl|rfl<;>omega);refine⟨?_,?_,O,E⟩
 . have:(A:Int)=nb*a+w*X:=by
    have:(nb:Int)*a+w*X=(s*(o*w-nb*v))*A:=by rw[e,f];grind
    rw[this,d,c];omega
   rw[<-ex,<-n]at this;exact_mod_cast this
 . have:(B:Int)=o*a+v*X:=by
    have:(o:Int)*a+v*X=(s*(o*w-nb*v))*B:=by rw[e,f];grind
    rw[this,d,c];omega
   rw[<-ex,<-n]at this;exact_mod_cast this
theorem IR.gcd{A B d pb c nb:Nat}(h:IR A B d pb c nb):Nat.gcd (XD (d*A) (pb*B)) (XD (c*A) (nb*B))=Nat.gcd A B:=by
 obtain⟨f,i,_,_⟩:=h;apply Nat.dvd_antisymm
 . have a:=FE (XD (d*A) (pb*B)) (XD (c*A) (nb*B));have b:=C8 (XD (d*A) (pb*B)) (XD (c*A) (nb*B));generalize Nat.gcd (XD (d*A) (pb*B)) (XD (c*A) (nb*B))=g at *;apply Nat.dvd_gcd
   . rw[f];exact Nat.dvd_add (CQ b _) (CQ a _)
   . rw[i];exact Nat.dvd_add (CQ b _) (CQ a _)
 . have a:=FE A B;have b:=C8 A B;generalize Nat.gcd A B=g at *;have e:∀x y:Nat,g∣XD (x*A) (y*B):=λx y=>by
    unfold XD;exact Nat.dvd_add (Nat.dvd_sub (CQ a _) (CQ b _)) (Nat.dvd_sub (CQ b _) (CQ a _))
   exact Nat.dvd_gcd (e _ _) (e _ _)
theorem IR.less{pb:Nat}(h:IR A B o pb v nb)(hp:pb≠0)(g:0<B):XD (o*A) (pb*B)+XD (v*A) (nb*B)<A+B:=by
 obtain⟨c,d,e,f⟩:=h;have a:XD (v*A) (nb*B)<=pb*XD (v*A) (nb*B):=Fk _ O;have b:XD (o*A) (pb*B)<=nb*XD (o*A) (pb*B):=Fk _ O;omega
def XV(f:UInt8->Bool)(l:List UInt8)(i:Nat):Nat:=i+((l.drop i).takeWhile f).length
def DR(l:List UInt8)(i:Nat):Nat:=XV (·==32) l i
def EZ(l:List UInt8)(i:Nat):Nat:=XV DZ l i
theorem WX(e:n<=l.length)(a:∀k (h:k<n),f l[k]=true)(b:∀h:n<l.length,f l[n]=false):(l.takeWhile f).length=n:=by
 induction l generalizing n with
 |nil=>simp at e ⊢;omega
 |cons c t g=>
  cases n with
  |zero=>
   have:=b Z;simp at this;rw[List.takeWhile_cons_of_neg (by simp[this])];rfl
  |succ n=>
   have:=a 0 O;simp at this;rw[List.takeWhile_cons_of_pos this,Ai,g (n:=n) (by simpa using e) (λk d=>a (k+1) O) λd=>b (by simpa using d)]
theorem Ma(d:i<=j)(g:j<=l.length)(b:∀k (h:k<l.length),i<=k->k<j->f l[k]=true)(c:∀h:j<l.length,f l[j]=false):XV f l i=j:=by
 unfold XV;rw[WX (n:=j-i) (by rw[AR];omega)]
 . omega
 . intro k a;rw[Fs];exact b _ _ O O
 . intro a;rw[Fs];rw[AR]at a;have e:i+(j-i)=j:=O
   have:=c O;simp only[e];exact this
theorem OW(f:UInt8->Bool)(l:List UInt8):(l.takeWhile f).length<=l.length/\(∀k (h:k<l.length),k<(l.takeWhile f).length->f l[k]=true)/\∀h:(l.takeWhile f).length<l.length,f (l[(l.takeWhile f).length]'h)=false:=by
 induction l with
 |nil=>simp
 |cons c t d=>
  by_cases a:f c=true
  . rw[List.takeWhile_cons_of_pos a];refine⟨by simp only[Ai];omega,λk b h=>?_,λh=>?_⟩
    . cases k with
      |zero=>simpa using a
      |succ k=>simpa using d.2.1 k (by simpa using b) (by simpa using h)
    . simp only[Ai,List.getElem_cons_succ];exact d.2.2 (by simpa using h)
  . rw[List.takeWhile_cons_of_neg (by simpa using a)];refine⟨Z,λk b h=>by simp at h,λh=>by simpa using a⟩
theorem OX(f:UInt8->Bool)(l:List UInt8)(i:Nat):i<=XV f l i:=Nat.le_add_right _ _
theorem OY(a:i<=l.length):XV f l i<=l.length:=by
 have:=(OW f (l.drop i)).1;rw[AR]at this;unfold XV;omega
theorem WY(b:i<=k)(a:k<XV f l i)(h:k<l.length):f l[k]=true:=by
 have:=(OW f (l.drop i)).2.1 (k-i) (by rw[AR];omega) (by unfold XV at a;omega);rw[Fs]at this;have e:i+(k-i)=k:=O
 simpa only[e]using this
theorem OZ(h:XV f l i<l.length):f (l[XV f l i]'h)=false:=by
 have a:((l.drop i).takeWhile f).length<(l.drop i).length:=by
  rw[AR];unfold XV at h;omega
 have:=(OW f (l.drop i)).2.2 a;rw[Fs]at this;exact this
theorem WZ(f:UInt8->Bool)(l:List UInt8)(i:Nat):XV f l (XV f l i)=XV f l i:=by
 rcases AQ (XV f l i) l.length with h|h
 . exact Ma (Aa _) O (λk _ b c=>by omega) λa=>OZ a
 . unfold XV;rw[show i+((l.drop i).takeWhile f).length=XV f l i from rfl,A7 h];rfl
def Ye(l:List UInt8)(j:Nat)(c:UInt8):Bool:=l[j]?==some c
inductive Rd(α:Type)
 |bad(e:Nat)(at_:Nat)
 |ok(a:α)(k:Nat)
def J8(l:List UInt8)(i:Nat):Rd (List UInt8 × Nat):=
 if EZ l (DR l i)=DR l i then .bad 2 (DR l i)
 else if 12<EZ l (DR l i)-DR l i then .bad 3 (DR l i)
 else .ok (((l.drop (DR l i)).take (EZ l (DR l i)-DR l i)),DR l i) (EZ l (DR l i))
def Yt(l:List UInt8)(i:Nat):Rd Rat:=
 match J8 l i with
 |.bad e p=>.bad e p
 |.ok (ds,_) k=>
  if Ye l (DR l k) 47 then
   match J8 l (DR l k+1)with
   |.bad e p=>.bad e p
   |.ok (a,p) m=>if num a=0 then .bad 4 p else .ok (Rat.divInt (num ds) (num a)) m
  else .ok ((num ds:Int):Rat) (DR l k)
def Ea(l:List UInt8)(i:Nat):Rd Nat:=
 if Ye l (DR l i) 94 then
  match J8 l (DR l i+1)with
  |.bad e p=>.bad e p
  |.ok (ds,p) k=>if 8<num ds then .bad 3 p else .ok (num ds) k
 else .ok 1 (DR l i)
def Gn(l:List UInt8)(j:Nat):Bool:=(l[j]?.map DZ).getD false
def Yl(l:List UInt8)(i:Nat):Rd (Rat × Nat):=
 if Gn l (DR l i)then
  match Yt l (DR l i)with
  |.bad e p=>.bad e p
  |.ok c k=>
   if Ye l (DR l k) 120 then
    match Ea l (DR l k+1)with
    |.bad e p=>.bad e p
    |.ok n m=>.ok (c,n) m
   else .ok (c,0) (DR l k)
 else if Ye l (DR l i) 120 then
  match Ea l (DR l i+1)with
  |.bad e p=>.bad e p
  |.ok n m=>.ok (1,n) m
 else .bad 2 (DR l i)
def Eo(l:List UInt8):Nat->Bool->Nat->List Rat->Rd (List Rat)
 |0,_,i,_=>.bad 0 i
 |f+1,b,i,s=>
  match Yl l i with
  |.bad e p=>.bad e p
  |.ok (c,n) k=>
   let a:=s.set n (if b then cf s n-c else cf s n+c)
   if Ye l (DR l k) 43 then Eo l f false (DR l k+1) a
   else if Ye l (DR l k) 45 then Eo l f true (DR l k+1) a
   else if DR l k=l.length then .ok a (DR l k)
   else .bad 2 (DR l k)
def J9(l:List UInt8):List Rat × Nat × Nat:=
 if 300<l.length then([],1,0)
 else
  match (if Ye l (DR l 0) 45 then Eo l (l.length+1) true (DR l 0+1) (List.replicate 9 0)else Eo l (l.length+1) false (DR l 0) (List.replicate 9 0))with
  |.bad e p=>([],e,p)
  |.ok s _=>(Jd s,0,0)
theorem IU{ds:List UInt8}(e:i<=l.length)(h:J8 l i=.ok (ds,p) k):p=DR l i/\k=EZ l p/\i<=p/\p<k/\k<=l.length/\k-p<=12/\ds=(l.drop p).take (k-p)/\ds.length=k-p/\ds.all DZ=true:=by
 unfold J8 at h;split at h
 . cases h
 . split at h
   . cases h
   . rename_i m o;simp only[Rd.ok.injEq,Prod.mk.injEq]at h;obtain⟨⟨rfl,rfl⟩,rfl⟩:=h;have j:DR l i<=l.length:=OY e;have q:DR l i<=EZ l (DR l i):=OX _ _ _;have b:EZ l (DR l i)<=l.length:=OY j;have a:((l.drop (DR l i)).take (EZ l (DR l i)-DR l i)).length=EZ l (DR l i)-DR l i:=by rw[Ak,AR];omega
     refine⟨rfl,rfl,OX _ _ _,O,b,O,rfl,a,?_⟩;rw[Cj];intro c d;obtain⟨n,g,rfl⟩:=F1.1 d;rw[a]at g;rw[List.getElem_take,Fs];exact WY (f:=DZ) (i:=DR l i) O (by show _<EZ l (DR l i);omega) O
theorem Oa{ds:List UInt8}(a:i<=l.length)(h:J8 l i=.ok (ds,p) k):i<k/\k<=l.length:=by
 have:=IU a h;omega
theorem Yk(h:Ye l j c=true):j<l.length:=by
 unfold Ye at h;rcases AQ j l.length with a|a
 . exact a
 . rw[As a]at h;simp at h
theorem Y9(a:i<=l.length):DR l i<=l.length:=OY a
theorem Hs(l:List UInt8)(i:Nat):i<=DR l i:=OX _ _ _
theorem Ob{c:Rat}(f:i<=l.length)(h:Yt l i=.ok c k):i<k/\k<=l.length:=by
 unfold Yt at h;split at h
 . cases h
 . rename_i ds p g b;have d:=Oa f b;have n:=Hs l g;have o:=Y9 d.2;split at h
   . rename_i a;have a:=Yk a;split at h
     . cases h
     . rename_i j r m e;have q:=Oa O e;split at h
       . cases h
       . cases h;omega
   . cases h;omega
theorem Oc(c:i<=l.length)(h:Ea l i=.ok n k):i<=k/\k<=l.length/\n<=8:=by
 unfold Ea at h;have e:=Hs l i;have f:=Y9 c;split at h
 . rename_i a;have a:=Yk a;split at h
   . cases h
   . rename_i d j m b;have g:=Oa O b;split at h
     . cases h
     . cases h;omega
 . cases h;omega
theorem Mb{c:Rat}(j:i<=l.length)(h:Yl l i=.ok (c,n) k):i<k/\k<=l.length/\n<=8:=by
 unfold Yl at h;have q:=Hs l i;have f:=Y9 j;split at h
 . split at h
   . cases h
   . rename_i c' o d;have e:=Ob f d;have r:=Hs l o;have s:=Y9 e.2;split at h
     . rename_i a;have a:=Yk a;split at h
       . cases h
       . rename_i p m b;have g:=Oc O b;cases h;omega
     . cases h;omega
 . split at h
   . rename_i a;have a:=Yk a;split at h
     . cases h
     . rename_i p m b;have g:=Oc O b;cases h;omega
   . cases h
